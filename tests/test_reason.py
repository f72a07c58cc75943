"""Promise 3: reason, the fewest of a store that bind to something."""

from tests.helper import (
    ACCEPT, PASS, REJECT, TalkCase, YES, ask, begin, drop, full_store, reason, say, since, turn_over, why, with_stores)


class Reason(TalkCase):

    def assert_reasons(self, line, s, reasons):
        """For each proposition of these its reason, or None for -33."""
        for p, expected in reasons.items():
            numbers = [-33] if expected is None else [len(expected), *expected]
            self.assert_tells(line, reason(s, p), *numbers)

    def test_not_bound(self):
        for m, greatest in ((1, 3), (2, 15), (3, 255)):
            for s in (0, 1):
                self.assert_reasons([begin(m)], s, {p: None for p in range(greatest)})
        line = [begin(2), say(12), REJECT]
        self.assert_reasons(line, 0, {p: None for p in (0, 1, 2, 3, 4, 8, 10, 7, 11)})
        self.assert_reasons(line, 1, {p: None for p in (0, 12, 1, 2, 8, 13, 14)})

    def test_none_of_the_store_where_it_is_so_always(self):
        for m, greatest in ((1, 3), (2, 15), (3, 255)):
            for moves in ([], [say(1), ACCEPT], [say(1), REJECT], [say(2), why(2)]):
                for s in (0, 1):
                    self.assert_reasons([begin(m)] + moves, s, {greatest: []})
        self.assert_reasons(full_store(), 0, {255: []})

    def test_one(self):
        line = [begin(2), say(12), REJECT]
        self.assert_reasons(line, 0, {12: [12], 13: [12], 14: [12]})
        self.assert_reasons(line, 1, {3: [3], 7: [3], 11: [3]})

    def test_one_of_several(self):
        self.assert_reasons(with_stores(2, [14, 12, 8], []), 0, {8: [8], 12: [12], 14: [14], 10: [8], 13: [12], 9: [8]})

    def test_two_that_bind_together_and_neither_alone(self):
        line = with_stores(2, [12, 10], [10, 12])
        self.assert_reasons(line, 0, {8: [12, 10], 9: [12, 10], 12: [12], 10: [10], 11: [10], 13: [12]})
        # In the store's order, which is another one here.
        self.assert_reasons(line, 1, {8: [10, 12], 9: [10, 12], 12: [12], 10: [10], 11: [10], 13: [12]})

    def test_of_as_few_that_with_the_lesser_number(self):
        # 14 follows of 12, and of 10: the first of both counts less.
        self.assert_reasons(with_stores(2, [12, 10], [10, 12]), 0, {14: [12]})
        self.assert_reasons(with_stores(2, [12, 10], [10, 12]), 1, {14: [10]})
        # The first and the last count 1 and 8, the two between 2 and 4.
        first = [248, 244, 203, 71]
        self.assert_reasons(with_stores(3, first, []), 0, {192: [244, 203], 64: [248, 71]})
        self.assert_reasons(with_stores(3, [], first), 1, {192: [244, 203]})

    def test_fewer_with_a_greater_number_go_ahead_of_more_with_a_lesser(self):
        # 248 follows of 252 and 250, which count 1 and 2; and of 120, which counts 4.
        line = with_stores(3, [252, 250, 120], [])
        self.assert_reasons(line, 0, {248: [120], 120: [120], 252: [252], 254: [252]})
        # 31 follows of the first three together, and of the last one.
        line = with_stores(3, [127, 191, 223, 30], [])
        self.assert_reasons(line, 0, {31: [30], 63: [30], 30: [30], 127: [127]})

    def test_a_store_of_six(self):
        six = [254, 253, 251, 247, 239, 223]
        self.assert_reasons(full_store(), 0, {
            192: six, 193: six[1:], 224: six[:5], 200: six[:3] + six[4:], 240: six[:4], 252: six[:2], 222: [254, 223],
            246: [254, 247], 254: [254], 223: [223], 231: [247, 239], 255: [], 128: None, 64: None, 0: None})
        line = with_stores(3, [], six[::-1])
        self.assert_reasons(line, 1, {
            192: six[::-1], 222: [223, 254], 246: [247, 254], 252: [253, 254], 223: [223], 128: None})

    def test_stores_of_every_size(self):
        six = [254, 253, 251, 247, 239, 223]
        for size in range(7):
            line = with_stores(3, six[:size], [])
            self.assert_reasons(line, 0, {256 - 2 ** size: six[:size]})

    def test_of_ones_own_store_alone(self):
        # Both together would bind to 8.
        for s in (0, 1):
            self.assert_reasons(with_stores(2, [12], [10]), s, {8: None})

    def test_what_was_taken_back_is_no_reason(self):
        line = [begin(2), say(12), PASS, say(8), PASS]
        self.assert_reasons(line, 0, {12: [12], 14: [12], 8: [8]})
        self.assert_reasons(line + [drop(12)], 0, {12: [8], 14: [8], 8: [8]})
        self.assert_reasons(line + [drop(8)], 0, {12: [12], 14: [12], 8: None})

    def test_said_but_not_in_the_store(self):
        line = [begin(2), say(8), ACCEPT, ask(12), YES]
        self.assert_reasons(line, 1, {12: [8]})
        line = with_stores(2, [12, 10], []) + [why(12), since(8)]
        self.assert_reasons(line, 0, {8: [12, 10]})

    def test_whosever_turn_it_is(self):
        line = with_stores(2, [12, 10], [7, 11])
        for calls in (line, line + [ask(1)], line + turn_over(2)):
            self.assert_reasons(calls, 0, {8: [12, 10]})
            self.assert_reasons(calls, 1, {3: [7, 11]})
