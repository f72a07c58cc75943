"""Promise 2 where why something is open: since, drop."""

from tests.helper import (
    ACCEPT, ALONE, MOST, PASS, REJECT, TalkCase, ask, begin, drop, full_store, last, other_store, own_store, say,
    since, told, turn_over, why)


class Since(TalkCase):

    def test_it_commits_to_the_reason_and_that_was_said(self):
        line = [begin(2), say(12), why(12), since(8)]
        self.assertEqual(told(line), [[0], [1], [0], [2]])
        self.assert_said(line, 8)
        self.assertEqual(own_store(line + [PASS]), {12, 8})
        self.assertEqual(other_store(line + [PASS]), set())

    def test_what_it_follows_of_is_a_reason_and_nothing_else(self):
        line = [begin(2), say(12), why(12)]
        for q in range(16):
            if q in (4, 8):
                self.assertEqual(last(line + [since(q)]), 2)
            elif q == 0:
                # It is so never, so 12 follows of it; but nobody can commit themselves to it.
                self.assert_refused(line, since(q), -33)
            else:
                self.assert_refused(line, since(q), -62)

    def test_it_is_no_reason_of_itself(self):
        for p in (1, 6, 12, 14):
            self.assert_refused([begin(2), say(p), why(p)], since(p), -62)

    def test_a_reason_that_one_is_committed_to_already(self):
        line = [begin(2), say(12), PASS, say(8), PASS] + turn_over(2) + [why(12), since(8)]
        self.assertEqual(last(line), 2)
        self.assert_said(line, 8)
        self.assertEqual(own_store(line + [PASS]), {12, 8})

    def test_a_reason_that_one_is_bound_to_already(self):
        # 8 follows of 12 and 10 together: the store is the same, and 8 is not in it.
        line = [begin(2), say(12), PASS, say(10), PASS] + turn_over(2) + [why(12), since(8)]
        self.assertEqual(last(line), 2)
        self.assert_said(line, 8)
        self.assert_refused(line, why(8), -6)
        self.assertEqual(own_store(line + [PASS]), {12, 10})

    def test_barred(self):
        # 4 would be a reason of 12, but can't go together with 10.
        line = [begin(2), say(12), PASS, say(10), PASS] + turn_over(2) + [why(12)]
        self.assert_refused(line, since(4), -33)

    def test_no_reason_goes_ahead_of_can_not_be(self):
        line = [begin(2), say(12), PASS, say(10), PASS] + turn_over(2) + [why(12)]
        self.assert_refused(line, since(3), -62)
        self.assert_refused(line, since(5), -62)

    def test_not_a_proposition_goes_ahead(self):
        for q in (16, 16 + 8, 16 + 12, 16 + 3, MOST):
            self.assert_refused([begin(2), say(12), why(12)], since(q), -22)

    def test_a_store_of_six(self):
        line = full_store() + turn_over(3) + [why(254)]
        # 64 is a reason of 254 for which there's no room; 192 one is bound to already; 32 one is barred from.
        for q, number in ((64, -28), (128, -28), (192, 6), (32, -33), (0, -33), (65, -62), (1, -62), (254, -62)):
            self.assertEqual(last(line + [since(q)]), number, q)
        self.assert_why(line + [since(64)], 254)

    def test_reasons_of_reasons(self):
        line = [begin(2), say(14), why(14), since(12), why(12), since(4), why(4)]
        self.assertEqual(told(line), [[0], [1], [0], [2], [0], [3], [0]])
        self.assert_refused(line, since(4), -62)
        self.assert_refused(line, since(8), -62)
        self.assert_refused(line, since(0), -33)


class DropWhatIsAskedFor(TalkCase):

    def test_it_is_out_of_the_store_and_nothing_is_open(self):
        line = [begin(2), say(12), PASS, say(10), PASS] + turn_over(2) + [why(12), drop(12)]
        self.assertEqual(last(line), 1)
        self.assert_nothing_open(line)
        self.assertEqual(own_store(line), set())
        self.assertEqual(other_store(line), {10})

    def test_the_one_who_asked_keeps_it(self):
        line = [begin(2), say(12), ACCEPT, why(12), drop(12)]
        self.assertEqual(last(line), 0)
        self.assertEqual(own_store(line), {12})
        self.assertEqual(other_store(line), set())

    def test_something_else(self):
        line = [begin(2), say(12), PASS, say(10), why(10)]
        # 12 is in the store, but the why is of 10.
        for p in (12, 8, 0, 15, 3):
            self.assert_refused(line, drop(p), -16)

    def test_not_a_proposition_goes_ahead(self):
        for p in (16, 16 + 12, MOST):
            self.assert_refused([begin(2), say(12), why(12)], drop(p), -22)

    def test_what_was_dropped_may_still_bind_one_through_others(self):
        line = [begin(2), say(12), PASS, say(8), PASS] + turn_over(2) + [why(12), drop(12)] + turn_over(2)
        self.assert_refused(line, say(12), -17)
        self.assert_refused(line, say(3), -33)

    def test_a_store_of_six_has_room_then(self):
        line = full_store() + turn_over(3) + [why(254), drop(254)] + turn_over(3)
        self.assertEqual(last(line + [say(64)]), 6)


class NotOpen(TalkCase):

    def test_the_other_moves_are_not_open(self):
        lines = ([begin(1), say(1), why(1)], [begin(1), say(2), ACCEPT, why(2)], [begin(1), say(1), REJECT, why(2)])
        for line in lines:
            for call in ALONE.values():
                self.assert_refused(line, call, -16)
            for form in (say, ask, why):
                for p in (0, 1, 2, 3, 4, MOST):
                    self.assert_refused(line, form(p), -16)
