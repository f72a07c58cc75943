"""Promise 2 where something was asked: yes, no, unsure."""

from tests.helper import (
    ACCEPT, MOST, NO, PASS, REJECT, TalkCase, UNSURE, YES, ask, begin, drop, full_store, last, other_store, own_store,
    say, since, told, turn_over, why)


class Yes(TalkCase):

    def test_it_commits_and_is_said(self):
        line = [begin(2), ask(12), YES]
        self.assertEqual(told(line), [[0], [0], [1]])
        self.assert_said(line, 12)
        self.assertEqual(own_store(line + [PASS]), {12})
        self.assertEqual(other_store(line + [PASS]), set())

    def test_bound_already_the_store_is_the_same(self):
        line = [begin(2), say(8), ACCEPT, ask(12), YES]
        self.assertEqual(last(line), 1)
        self.assert_said(line, 12)
        self.assertEqual(own_store(line + [PASS]), {8})

    def test_bound_by_two_others_together(self):
        line = [begin(2), say(12), ACCEPT, say(10), ACCEPT, ask(8), YES]
        self.assertEqual(last(line), 2)
        self.assert_said(line, 8)
        self.assertEqual(own_store(line + [PASS]), {12, 10})

    def test_with_an_empty_store_to_what_is_so_always(self):
        line = [begin(2), ask(15), YES]
        self.assertEqual(last(line), 0)
        self.assert_said(line, 15)
        self.assertEqual(own_store(line + [PASS]), set())

    def test_barred(self):
        self.assert_refused([begin(2), ask(0)], YES, -33)
        self.assert_refused([begin(2), say(12), ACCEPT, ask(3)], YES, -33)
        self.assert_refused([begin(2), say(12), ACCEPT, say(10), ACCEPT, ask(7)], YES, -33)

    def test_a_store_of_six(self):
        line = full_store() + turn_over(3)
        self.assertEqual(last(line + [ask(64), YES]), -28)
        self.assert_asked_at_six(line + [ask(64), YES])
        self.assertEqual(last(line + [ask(192), YES]), 6)
        self.assertEqual(last(line + [ask(63), YES]), -33)

    def assert_asked_at_six(self, line):
        # Neither bound nor barred, and with no room: unsure alone is not refused.
        self.assertEqual(last(line + [YES]), -28)
        self.assertEqual(last(line + [NO]), -28)
        self.assertEqual(last(line + [UNSURE]), 6)


class No(TalkCase):

    def test_it_commits_to_the_opposite_and_that_was_said(self):
        for m, p, contrary in ((1, 2, 1), (2, 12, 3), (3, 1, 254)):
            line = [begin(m), ask(p), NO]
            self.assertEqual(told(line), [[0], [0], [1]])
            self.assert_said(line, contrary)
            self.assertEqual(own_store(line + [PASS]), {contrary})
            self.assertEqual(other_store(line + [PASS]), set())

    def test_bound_to_the_opposite_already(self):
        line = [begin(2), say(8), ACCEPT, ask(3), NO]
        self.assertEqual(last(line), 1)
        self.assert_said(line, 12)
        self.assertEqual(own_store(line + [PASS]), {8})
        self.assert_refused(line, why(12), -6)

    def test_with_an_empty_store_to_what_is_so_never(self):
        line = [begin(2), ask(0), NO]
        self.assertEqual(last(line), 0)
        self.assert_said(line, 15)

    def test_bound_to_what_is_asked(self):
        self.assert_refused([begin(2), ask(15)], NO, -33)
        self.assert_refused([begin(2), say(12), ACCEPT, ask(14)], NO, -33)

    def test_a_store_of_six(self):
        line = full_store() + turn_over(3)
        self.assertEqual(last(line + [ask(64), NO]), -28)
        self.assertEqual(last(line + [ask(64), NO, UNSURE]), 6)
        self.assertEqual(last(line + [ask(192), NO]), -33)
        self.assertEqual(last(line + [ask(63), NO]), 6)
        self.assert_said(line + [ask(63), NO], 192)


class Unsure(TalkCase):

    def test_nothing_is_open_and_no_store_is_another(self):
        line = [begin(2), say(12), ACCEPT, ask(10), UNSURE]
        self.assertEqual(last(line), 1)
        self.assert_nothing_open(line)
        self.assertEqual(own_store(line), {12})
        self.assertEqual(other_store(line), {12})

    def test_it_looks_at_the_one_who_is_asked(self):
        # 0 is bound to 12, 1 isn't.
        self.assertEqual(last([begin(2), say(12), PASS, ask(12), UNSURE]), 0)
        self.assertEqual(last([begin(2), say(12), PASS, ask(3), UNSURE]), 0)
        self.assert_refused([begin(2), say(12), PASS] + turn_over(2) + [ask(12)], UNSURE, -61)

    def test_bound(self):
        line = [begin(2), say(12), ACCEPT]
        for p in (12, 13, 14, 15):
            self.assert_refused(line + [ask(p)], UNSURE, -61)

    def test_barred(self):
        line = [begin(2), say(12), ACCEPT]
        for p in (0, 1, 2, 3):
            self.assert_refused(line + [ask(p)], UNSURE, -61)

    def test_with_an_empty_store(self):
        for m, greatest in ((1, 3), (2, 15)):
            self.assert_refused([begin(m), ask(0)], UNSURE, -61)
            self.assert_refused([begin(m), ask(greatest)], UNSURE, -61)
            for p in range(1, greatest):
                self.assertEqual(last([begin(m), ask(p), UNSURE]), 0)

    def test_bound_or_barred_by_two_together(self):
        line = [begin(2), say(12), ACCEPT, say(10), ACCEPT]
        self.assert_refused(line + [ask(8)], UNSURE, -61)
        self.assert_refused(line + [ask(7)], UNSURE, -61)


class NotOpen(TalkCase):

    def test_the_other_moves_are_not_open(self):
        lines = [[begin(1), ask(p)] for p in range(4)] + [[begin(1), say(1), ACCEPT, ask(1)]]
        for line in lines:
            for call in (ACCEPT, REJECT, PASS):
                self.assert_refused(line, call, -16)
            for form in (say, ask, why, drop, since):
                for p in (0, 1, 2, 3, 4, MOST):
                    self.assert_refused(line, form(p), -16)
