"""Promise 2 where something was said: accept, reject, pass, why."""

from tests.helper import (
    ACCEPT, MOST, NO, PASS, REJECT, TalkCase, UNSURE, YES, ask, begin, drop, full_store, last, other_store, own_store,
    say, since, told, turn_over, why)


class Accept(TalkCase):

    def test_it_commits_and_nothing_is_open(self):
        line = [begin(2), say(12), ACCEPT]
        self.assertEqual(told(line), [[0], [1], [1]])
        self.assert_nothing_open(line)
        self.assertEqual(own_store(line), {12})
        self.assertEqual(other_store(line), {12})

    def test_bound_already_the_store_is_the_same(self):
        line = [begin(2)] + turn_over(2) + [say(8), PASS] + turn_over(2) + [say(12), ACCEPT]
        self.assertEqual(last(line), 1)
        self.assert_nothing_open(line)
        self.assertEqual(own_store(line), {12})
        self.assertEqual(other_store(line), {8})

    def test_barred(self):
        line = [begin(2)] + turn_over(2) + [say(3), PASS] + turn_over(2) + [say(12)]
        self.assert_refused(line, ACCEPT, -33)

    def test_a_store_of_six(self):
        line = full_store() + turn_over(3)
        self.assertEqual(last(line + [say(64), ACCEPT]), -28)
        self.assert_said(line + [say(64), ACCEPT], 64)
        self.assertEqual(last(line + [say(63), ACCEPT]), -33)
        self.assertEqual(last(line + [say(192), ACCEPT]), 6)
        self.assertEqual(own_store(line + [say(64), ACCEPT, PASS, ask(255), YES, PASS]),
                         {254, 253, 251, 247, 239, 223})

    def test_what_was_rejected_may_be_accepted_by_who_is_not_barred(self):
        # 0 says 12 and 1 rejects it: 0 is barred from 3.
        self.assert_refused([begin(2), say(12), REJECT], ACCEPT, -33)
        # 0 asks, 1 says no; 0 is free to accept the opposite.
        line = [begin(2), ask(12), NO, ACCEPT]
        self.assertEqual(last(line), 1)
        self.assertEqual(own_store(line), {3})
        self.assertEqual(other_store(line), {3})


class Reject(TalkCase):

    def test_it_commits_to_the_opposite_and_that_was_said(self):
        for m, p, contrary in ((1, 1, 2), (2, 12, 3), (2, 6, 9), (3, 254, 1), (3, 15, 240)):
            line = [begin(m), say(p), REJECT]
            self.assertEqual(last(line), 1)
            self.assert_said(line, contrary)
            self.assertEqual(own_store(line + [PASS]), {contrary})
            self.assertEqual(other_store(line + [PASS]), {p})

    def test_bound_to_the_opposite_already(self):
        line = [begin(2)] + turn_over(2) + [say(1), PASS] + turn_over(2) + [say(12), REJECT]
        self.assertEqual(last(line), 1)
        self.assert_said(line, 3)
        self.assertEqual(own_store(line + [PASS]), {1})

    def test_what_was_said_but_is_not_in_the_store(self):
        line = [begin(2)] + turn_over(2) + [say(1), PASS] + turn_over(2) + [say(12), REJECT]
        self.assert_refused(line, why(3), -6)

    def test_bound_to_what_was_said_one_is_barred_from_the_opposite(self):
        line = [begin(2), say(12), ACCEPT] + turn_over(2) + [ask(12), YES]
        self.assert_refused(line, REJECT, -33)

    def test_what_is_so_always_can_not_be_rejected(self):
        self.assert_refused([begin(2), ask(15), YES], REJECT, -33)
        self.assertEqual(last([begin(2), ask(15), YES, ACCEPT]), 0)

    def test_the_opposite_of_what_is_so_never(self):
        line = [begin(2), ask(0), NO]
        self.assertEqual(last(line), 0)
        self.assert_said(line, 15)
        self.assertEqual(last(line + [ACCEPT]), 0)

    def test_a_store_of_six(self):
        line = full_store() + turn_over(3)
        self.assertEqual(last(line + [say(64), REJECT]), -28)
        self.assert_said(line + [say(64), REJECT], 64)
        self.assertEqual(last(line + [say(192), REJECT]), -33)
        self.assertEqual(last(line + [say(63), REJECT]), 6)
        self.assert_said(line + [say(63), REJECT], 192)


class Pass(TalkCase):

    def test_nothing_is_open_and_no_store_is_another(self):
        line = [begin(2), say(12), PASS]
        self.assertEqual(told(line), [[0], [1], [0]])
        self.assert_nothing_open(line)
        self.assertEqual(own_store(line), {12})
        self.assertEqual(other_store(line), set())

    def test_it_answers_the_store_of_who_passes(self):
        line = [begin(3), say(127), ACCEPT, say(191), ACCEPT, say(223), PASS]
        self.assertEqual(told(line)[1:], [[1], [1], [2], [2], [3], [2]])

    def test_one_may_always_pass(self):
        self.assertEqual(last(full_store() + turn_over(3) + [say(64), PASS]), 6)
        self.assertEqual(last(full_store() + turn_over(3) + [say(63), PASS]), 6)


class WhyOfWhatWasSaid(TalkCase):

    def test_it_is_open_for_who_said_it(self):
        line = [begin(2), say(12), why(12)]
        self.assertEqual(last(line), 0)
        self.assert_why(line, 12)
        self.assertEqual(last(line + [drop(12)]), 0)

    def test_not_what_was_said(self):
        line = [begin(2), say(12), PASS, say(10)]
        # 12 is in the store, but it isn't what was said now; nor are the others, in the store or not.
        for p in (12, 8, 0, 15, 5):
            self.assert_refused(line, why(p), -16)

    def test_not_a_proposition_goes_ahead(self):
        for p in (16, 16 + 12, MOST):
            self.assert_refused([begin(2), say(12)], why(p), -22)

    def test_what_was_said_but_is_not_in_the_store(self):
        # Always so: yes to it leaves the store empty.
        line = [begin(2), ask(15), YES]
        self.assert_said(line, 15)
        self.assert_refused(line, why(15), -6)
        self.assert_refused(line, why(14), -16)
        # It follows of what is in the store.
        line = [begin(2), say(8), ACCEPT, ask(12), YES]
        self.assert_said(line, 12)
        self.assert_refused(line, why(12), -6)
        self.assert_refused(line, why(8), -16)

    def test_of_a_rejection_and_of_a_yes(self):
        for line, p in (([begin(2), say(12), REJECT], 3), ([begin(2), ask(6), YES], 6), ([begin(2), ask(6), NO], 9)):
            self.assert_why(line + [why(p)], p)


class NotOpen(TalkCase):

    def test_the_other_moves_are_not_open(self):
        lines = (
            [begin(1), say(1)], [begin(1), say(1), REJECT], [begin(1), ask(1), YES], [begin(1), ask(1), NO],
            [begin(1), ask(3), YES])
        for line in lines:
            for call in (YES, NO, UNSURE):
                self.assert_refused(line, call, -16)
            for form in (say, ask, drop, since):
                for p in (0, 1, 2, 3, 4, MOST):
                    self.assert_refused(line, form(p), -16)
