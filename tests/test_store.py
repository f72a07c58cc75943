"""Promise 3: store, bound, barred and would; and what is refused of a person or a proposition."""

from tests.helper import (
    ACCEPT, MOST, OF_PERSON, PASS, REJECT, TURN, TalkCase, YES, ask, barred, begin, bound, drop, full_store, last,
    reason, say, since, store, told, turn_over, why, with_stores, would)

LIMITS = ((1, 4), (2, 16), (3, 256))
NO_PERSONS = (2, 3, 255, MOST)


class Refused(TalkCase):

    def test_no_such_person(self):
        for line in ([begin(2)], [begin(2), say(12)], [begin(2), say(12), REJECT, why(3)]):
            for s in NO_PERSONS:
                self.assert_refused(line, store(s), -2)
                for form in OF_PERSON:
                    for p in (0, 12, 15):
                        self.assertEqual(told(line + [form(s, p)])[-1], [-2])

    def test_no_such_person_goes_ahead_of_no_proposition(self):
        for m, limit in LIMITS:
            for s in NO_PERSONS:
                for p in (limit, MOST):
                    for form in OF_PERSON:
                        self.assertEqual(told([begin(m), form(s, p)])[-1], [-2])

    def test_not_a_proposition(self):
        for m, limit in LIMITS:
            for line in ([begin(m)], [begin(m), say(1)], [begin(m), ask(1)], [begin(m), say(1), ACCEPT, ask(2)]):
                for p in (limit, limit + 1, 2 * limit - 1, 65536, MOST):
                    self.assertEqual(last(line + [would(p)]), -22)
                    for s in (0, 1):
                        for form in OF_PERSON:
                            self.assertEqual(told(line + [form(s, p)])[-1], [-22])

    def test_the_greatest_proposition(self):
        for m, limit in LIMITS:
            for s in (0, 1):
                self.assert_tells([begin(m), say(1)], bound(s, limit - 1), 1)
                self.assert_tells([begin(m), say(1)], barred(s, limit - 1), 0)
                self.assert_tells([begin(m), say(1)], reason(s, limit - 1), 0)
            self.assert_tells([begin(m), say(1)], would(limit - 1), 1)

    def test_what_is_refused_changes_nothing(self):
        line = [begin(2), say(12), ACCEPT, say(10)]
        for call in (store(2), bound(2, 12), barred(0, 16), reason(MOST, MOST), reason(1, 8), would(16)):
            self.assertLess(last(line + [call]), 0)
            self.assert_refused(line, call, last(line + [call]))


class Store(TalkCase):

    def assert_stores(self, line, first, second):
        self.assert_tells(line, store(0), len(first), *first)
        self.assert_tells(line, store(1), len(second), *second)

    def test_empty(self):
        for m in (1, 2, 3):
            self.assert_stores([begin(m)], [], [])
        self.assert_stores([begin(2), ask(3)], [], [])

    def test_in_the_order_in_which_they_came(self):
        self.assert_stores([begin(2), say(14), ACCEPT, say(12), why(12), since(4), ACCEPT], [14, 12, 4], [14, 4])
        for first, second in (([12, 10], [10, 12]), ([10, 12], [12, 10]), ([11, 14, 13], [13, 14, 11]), ([], [7, 3])):
            self.assert_stores(with_stores(2, first, second), first, second)

    def test_behind_a_drop_from_its_midst(self):
        line = [begin(3), say(254), PASS, say(253), PASS, say(251), PASS, drop(253)]
        self.assert_stores(line, [254, 251], [])
        # What was taken back and said again comes last.
        self.assert_stores(line + turn_over(3) + [say(253)], [254, 251, 253], [])

    def test_behind_a_drop_from_an_end(self):
        line = [begin(3), say(254), PASS, say(253), PASS, say(251), PASS]
        self.assert_stores(line + [drop(254)], [253, 251], [])
        self.assert_stores(line + [drop(251)], [254, 253], [])
        self.assert_stores([begin(2), say(12), PASS, drop(12)], [], [])

    def test_of_six(self):
        six = [254, 253, 251, 247, 239, 223]
        self.assert_stores(full_store(), six, [])
        self.assert_stores(with_stores(3, six, six[::-1]), six, six[::-1])
        self.assert_stores(full_store() + turn_over(3) + [why(247), drop(247)], [254, 253, 251, 239, 223], [])

    def test_bound_already_it_is_the_same(self):
        self.assert_stores([begin(2), say(8), ACCEPT, ask(12), YES], [8], [8])
        self.assert_stores([begin(2), ask(15), YES, ACCEPT], [], [])

    def test_each_has_their_own(self):
        self.assert_stores([begin(2), say(12), REJECT], [12], [3])
        self.assert_stores([begin(2), say(12), ACCEPT, drop(12)], [], [12])


class BoundAndBarred(TalkCase):

    def assert_all(self, line, s, allowed):
        """For every proposition, by the worlds that s allows."""
        limit = {1: 4, 2: 16, 3: 256}[line[0][1]]
        for p in range(limit):
            self.assert_tells(line, bound(s, p), int(p & allowed == allowed))
            self.assert_tells(line, barred(s, p), int(p & allowed == 0))

    def test_with_an_empty_store(self):
        for m, limit in LIMITS:
            for s in (0, 1):
                self.assert_tells([begin(m)], bound(s, limit - 1), 1)
                self.assert_tells([begin(m)], barred(s, limit - 1), 0)
                self.assert_tells([begin(m)], bound(s, 0), 0)
                self.assert_tells([begin(m)], barred(s, 0), 1)
                self.assert_all([begin(m)], s, limit - 1)

    def test_with_something_in_the_store(self):
        line = [begin(2), say(12), REJECT]
        self.assert_all(line, 0, 12)
        self.assert_all(line, 1, 3)
        for s in (0, 1):
            self.assert_tells(line, bound(s, 15), 1)
            self.assert_tells(line, bound(s, 0), 0)
            self.assert_tells(line, barred(s, 15), 0)
            self.assert_tells(line, barred(s, 0), 1)
        # Neither: it is so in one of the two worlds that are left.
        self.assert_tells(line, bound(0, 8), 0)
        self.assert_tells(line, barred(0, 8), 0)

    def test_of_two_others_and_of_neither_alone(self):
        self.assert_tells(with_stores(2, [12], [10]), bound(0, 8), 0)
        self.assert_tells(with_stores(2, [12], [10]), bound(1, 8), 0)
        self.assert_tells(with_stores(2, [12], [10]), barred(0, 7), 0)
        self.assert_tells(with_stores(2, [12, 10], []), bound(0, 8), 1)
        self.assert_tells(with_stores(2, [12, 10], []), barred(0, 7), 1)
        self.assert_tells(with_stores(2, [12, 10], []), bound(1, 8), 0)
        self.assert_all(with_stores(2, [12, 10], [7]), 0, 8)
        self.assert_all(with_stores(2, [12, 10], [7]), 1, 7)

    def test_taken_back_but_others_still_bind_to_it(self):
        line = [begin(2), say(12), PASS, say(8), PASS, drop(12)]
        self.assert_tells(line, store(0), 1, 8)
        self.assert_tells(line, bound(0, 12), 1)
        self.assert_tells(line, barred(0, 3), 1)
        line = with_stores(3, [240, 204, 170], []) + turn_over(3) + [drop(240)]
        self.assert_all(line, 0, 136)

    def test_taken_back_and_nothing_else_binds_to_it(self):
        line = [begin(2), say(12), PASS, drop(12)]
        self.assert_tells(line, bound(0, 12), 0)
        self.assert_tells(line, barred(0, 3), 0)

    def test_a_store_of_six(self):
        self.assert_all(full_store(), 0, 192)
        self.assert_all(full_store(), 1, 255)


class Would(TalkCase):

    def assert_would(self, line, allowed):
        for p in range({1: 4, 2: 16, 3: 256}[line[0][1]]):
            expected = 1 if p & allowed == allowed else 0 if p & allowed == 0 else 2
            self.assert_tells(line, would(p), expected)

    def test_of_0_and_of_1(self):
        line = with_stores(2, [12], [10])
        # 1's turn.
        for p, number in ((10, 1), (11, 1), (15, 1), (5, 0), (0, 0), (12, 2), (8, 2), (3, 2)):
            self.assert_tells(line, would(p), number)
        # 0's turn.
        for p, number in ((12, 1), (13, 1), (15, 1), (3, 0), (0, 0), (10, 2), (8, 2), (5, 2)):
            self.assert_tells(line + turn_over(2), would(p), number)

    def test_with_empty_stores(self):
        for m, limit in LIMITS:
            for line in ([begin(m)], [begin(m), ask(1)]):
                self.assert_would(line, limit - 1)

    def test_whatever_is_open(self):
        self.assert_would([begin(2), say(12)], 15)
        self.assert_would([begin(2), say(12), REJECT], 12)
        self.assert_would([begin(2), say(12), REJECT, why(3)], 3)
        self.assert_would([begin(2), say(12), ACCEPT, ask(8)], 12)
        self.assert_would([begin(2), say(12), why(12)], 12)

    def test_behind_40_moves(self):
        line = [begin(2), say(12), PASS] + turn_over(2) * 12 + [ask(15), YES]
        self.assert_tells(line, TURN, 0, 40)
        self.assert_would(line, 12)
        self.assert_would(line + [PASS], 12)
