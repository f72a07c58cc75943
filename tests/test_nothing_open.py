"""Promise 2 where nothing is open: say, ask, why, drop."""

from tests.helper import (
    ACCEPT, ALONE, MOST, NO, PASS, TalkCase, UNSURE, YES, ask, begin, drop, full_store, last, other_store, own_store,
    say, since, told, turn_over, why)


class Say(TalkCase):

    def test_it_commits_and_is_said(self):
        line = [begin(2), say(12), PASS, say(10), PASS]
        self.assertEqual(told(line), [[0], [1], [0], [2], [0]])
        self.assert_said(line[:2], 12)
        self.assert_said(line[:4], 10)
        self.assertEqual(own_store(line[:3]), {12})
        self.assertEqual(own_store(line), {12, 10})
        self.assertEqual(other_store(line), set())

    def test_1_says_something_too(self):
        line = [begin(2), say(12), PASS] + turn_over(2) + [say(3), PASS]
        self.assertEqual(told(line), [[0], [1], [0], [1], [0], [1], [1], [1]])
        self.assert_said(line[:-1], 3)
        self.assertEqual(own_store(line), {3})
        self.assertEqual(other_store(line), {12})

    def test_bound_already(self):
        line = [begin(2), say(12), PASS]
        for p in (12, 13, 14, 15):
            self.assert_refused(line, say(p), -17)
        for p in (4, 5, 6, 7, 8, 9, 10, 11):
            self.assertEqual(last(line + [say(p)]), 2)

    def test_what_the_other_one_is_bound_to_binds_nobody_else(self):
        line = [begin(2), say(12), PASS] + turn_over(2)
        self.assertEqual(last(line + [say(12)]), 1)
        self.assertEqual(last(line + [say(3)]), 1)

    def test_with_an_empty_store_bound_only_to_what_is_so_always(self):
        for m, greatest in ((1, 3), (2, 15), (3, 255)):
            self.assertEqual(last([begin(m), say(greatest)]), -17)
            for p in range(1, greatest):
                self.assertEqual(last([begin(m), say(p)]), 1)

    def test_bound_by_two_others_together(self):
        self.assert_refused([begin(2), say(12), PASS, say(10), PASS], say(8), -17)
        self.assertEqual(last([begin(2), say(12), PASS, say(8)]), 2)
        self.assertEqual(last([begin(2), say(10), PASS, say(8)]), 2)

    def test_barred(self):
        for p in (0, 1, 2, 3):
            self.assert_refused([begin(2), say(12), PASS], say(p), -33)

    def test_barred_by_two_others_together(self):
        self.assert_refused([begin(2), say(12), PASS, say(10), PASS], say(7), -33)
        self.assertEqual(last([begin(2), say(12), PASS, say(7)]), 2)
        self.assertEqual(last([begin(2), say(10), PASS, say(7)]), 2)

    def test_what_is_so_never_can_not_be_said(self):
        for m in (1, 2, 3):
            self.assertEqual(last([begin(m), say(0)]), -33)
        self.assert_refused([begin(1)], say(0), -33)

    def test_not_a_proposition_goes_ahead_of_bound_and_barred(self):
        for p in (16, 16 + 12, 16 + 15, 16 + 3, MOST):
            self.assert_refused([begin(2), say(12), PASS], say(p), -22)

    def test_a_store_of_six(self):
        self.assertEqual(last(full_store()[:-1]), 6)
        self.assert_says_at_six(full_store())

    def assert_says_at_six(self, line):
        # What can't be, and what is so already, go ahead of too many.
        for p, number in ((64, -28), (127, -28), (192, -17), (254, -17), (255, -17), (63, -33), (0, -33), (256, -22)):
            self.assertEqual(last(line + [say(p)]), number, p)

    def test_what_is_refused_at_six_changes_nothing(self):
        line = full_store() + [say(64), say(63), say(192), say(256)]
        self.assert_nothing_open(line)
        self.assertEqual(own_store(line), {254, 253, 251, 247, 239, 223})
        self.assert_says_at_six(line)

    def test_a_store_of_six_has_room_behind_a_drop(self):
        line = full_store() + [drop(254)] + turn_over(3)
        self.assertEqual(last(line + [say(64)]), 6)
        self.assertEqual(own_store(line + [say(64), PASS]), {253, 251, 247, 239, 223, 64})

    def test_six_of_0s_do_not_fill_1s_store(self):
        line = full_store() + turn_over(3)
        self.assertEqual(last(line + [say(64)]), 1)


class Ask(TalkCase):

    def test_it_is_asked_and_commits_nobody(self):
        for line, size in (([begin(1)], 0), ([begin(1), say(1), PASS], 1), ([begin(1), say(2), ACCEPT], 1)):
            for p in range(4):
                self.assertEqual(last(line + [ask(p)]), size)
                self.assert_asked(line + [ask(p)], p)

    def test_bound_or_barred_one_may_ask(self):
        line = [begin(2), say(12), ACCEPT]
        for p in (0, 3, 12, 15):
            self.assertEqual(last(line + [ask(p)]), 1)
            self.assert_asked(line + [ask(p)], p)

    def test_stores_are_as_before(self):
        line = [begin(2), say(12), PASS, ask(6), UNSURE]
        self.assertEqual(own_store(line), {12})
        self.assertEqual(other_store(line), set())

    def test_not_a_proposition(self):
        self.assert_refused([begin(1)], ask(4), -22)
        self.assert_refused([begin(2), say(12), ACCEPT], ask(16), -22)
        self.assert_refused([begin(2)], ask(MOST), -22)

    def test_with_a_store_of_six(self):
        self.assertEqual(last(full_store() + [ask(64)]), 6)


class Why(TalkCase):

    def test_of_the_other_ones_store(self):
        line = [begin(2), say(12), ACCEPT, say(10), ACCEPT]
        for p in (12, 10):
            self.assertEqual(last(line + [why(p)]), 2)
            self.assert_why(line + [why(p)], p)

    def test_the_answer_is_the_askers_store(self):
        line = [begin(2), say(12), PASS, say(10), PASS] + turn_over(2)
        self.assertEqual(last(line + [why(12)]), 0)
        self.assert_why(line + [why(12)], 12)

    def test_it_is_open_for_the_other_one(self):
        line = [begin(2), say(12), ACCEPT, why(12), drop(12)]
        self.assertEqual(told(line)[-2:], [[1], [0]])
        self.assertEqual(own_store(line), {12})
        self.assertEqual(other_store(line), set())

    def test_ones_own_store_does_not_count(self):
        for p in range(16):
            self.assert_refused([begin(2), say(12), PASS], why(p), -6)

    def test_bound_is_not_enough(self):
        for p in (13, 14, 15, 8):
            self.assert_refused([begin(2), say(12), ACCEPT], why(p), -6)

    def test_an_empty_store(self):
        for p in range(4):
            self.assert_refused([begin(1)], why(p), -6)

    def test_not_a_proposition_goes_ahead(self):
        self.assert_refused([begin(2), say(12), ACCEPT], why(16), -22)
        self.assert_refused([begin(2), say(12), ACCEPT], why(28), -22)
        self.assert_refused([begin(2)], why(MOST), -22)


class Drop(TalkCase):

    def test_of_ones_own_store(self):
        line = [begin(2), say(12), PASS, say(10), PASS]
        for p, left in ((12, 10), (10, 12)):
            behind = line + [drop(p)]
            self.assertEqual(last(behind), 1)
            self.assert_nothing_open(behind)
            self.assertEqual(other_store(behind), {left})
            self.assertEqual(own_store(behind), set())

    def test_down_to_none(self):
        line = [begin(2), say(12), PASS, drop(12)]
        self.assertEqual(last(line), 0)
        self.assertEqual(other_store(line), set())

    def test_the_other_one_keeps_theirs(self):
        line = [begin(2), say(12), ACCEPT, drop(12)]
        self.assertEqual(own_store(line), {12})
        self.assertEqual(other_store(line), set())

    def test_the_other_ones_store_does_not_count(self):
        line = [begin(2), say(12), PASS] + turn_over(2)
        for p in (0, 3, 12, 15):
            self.assert_refused(line, drop(p), -6)

    def test_bound_is_not_enough(self):
        for p in (13, 14, 15, 8, 0):
            self.assert_refused([begin(2), say(12), PASS], drop(p), -6)

    def test_an_empty_store(self):
        for p in range(4):
            self.assert_refused([begin(1)], drop(p), -6)

    def test_not_a_proposition_goes_ahead(self):
        self.assert_refused([begin(2), say(12), PASS], drop(16), -22)
        self.assert_refused([begin(2), say(12), PASS], drop(28), -22)
        self.assert_refused([begin(1)], drop(MOST), -22)

    def test_what_was_dropped_binds_no_more(self):
        line = [begin(2), say(12), PASS, drop(12), ask(12)]
        self.assertEqual(last(line + [UNSURE]), 0)
        self.assertEqual(last(line + [NO]), 1)

    def test_what_was_dropped_may_still_bind_one_through_others(self):
        line = [begin(2), say(12), PASS, say(8), PASS, drop(12)]
        self.assertEqual(last(line), 1)
        self.assert_refused(line + [ask(12)], UNSURE, -61)
        self.assert_refused(line + [ask(12)], NO, -33)
        self.assertEqual(last(line + [ask(12), YES]), 1)
        self.assert_refused(line + turn_over(2), say(12), -17)

    def test_what_was_dropped_may_be_said_again(self):
        line = [begin(2), say(12), PASS, say(10), PASS, drop(12)] + turn_over(2) + [say(12)]
        self.assertEqual(last(line), 2)
        self.assertEqual(own_store(line + [PASS]), {12, 10})


class NotOpen(TalkCase):

    def test_the_other_moves_are_not_open(self):
        lines = (
            [begin(1)], [begin(1), say(1), ACCEPT], [begin(1), say(2), PASS], [begin(1), ask(1), UNSURE],
            [begin(1), say(1), PASS, drop(1)], [begin(1), say(1), why(1), drop(1)])
        for line in lines:
            self.assert_nothing_open(line)
            for call in ALONE.values():
                self.assert_refused(line, call, -16)
            for q in (0, 1, 2, 3, 4, MOST):
                self.assert_refused(line, since(q), -16)
