"""Promise 3: kinds, the moves that there are for what is open."""

from tests.helper import (
    ACCEPT, ALONE, KINDS, NO, PASS, REJECT, TURN, TalkCase, UNSURE, WITH_ONE, YES, ask, begin, drop, full_store, last,
    propositions, say, since, tells, turn_over, why)

NOTHING_OPEN = [4, 1, 2, 3, 4]
SOMETHING_SAID = [4, 3, 5, 6, 7]
SOMETHING_ASKED = [3, 8, 9, 10]
WHY_SOMETHING = [2, 4, 11]


class Kinds(TalkCase):

    def test_nothing_is_open(self):
        for line in ([], [say(1), ACCEPT], [say(1), PASS], [ask(1), UNSURE], [say(1), why(1), drop(1)],
                     [say(1), ACCEPT, drop(1)]):
            self.assert_tells([begin(2)] + line, KINDS, *NOTHING_OPEN)

    def test_something_was_said(self):
        for line in ([say(3)], [say(3), REJECT], [ask(1), YES], [ask(1), NO], [say(3), why(3), since(1)]):
            self.assert_tells([begin(2)] + line, KINDS, *SOMETHING_SAID)

    def test_something_was_asked(self):
        for line in ([ask(0)], [ask(15)], [say(1), ACCEPT, ask(1)]):
            self.assert_tells([begin(2)] + line, KINDS, *SOMETHING_ASKED)

    def test_why_something(self):
        for line in ([say(1), why(1)], [say(1), ACCEPT, why(1)], [say(1), REJECT, why(14)]):
            self.assert_tells([begin(2)] + line, KINDS, *WHY_SOMETHING)

    def test_whether_they_would_be_refused_or_not(self):
        # There is nothing to drop and nothing to ask a reason for; and one who is bound can only say yes.
        self.assert_tells([begin(1)], KINDS, *NOTHING_OPEN)
        self.assert_tells([begin(1), ask(3)], KINDS, *SOMETHING_ASKED)
        # A why of it would be refused, for it's in no store; and rejecting it too.
        self.assert_tells([begin(1), ask(3), YES], KINDS, *SOMETHING_SAID)
        # There's no reason of it.
        self.assert_tells([begin(1), say(1), why(1)], KINDS, *WHY_SOMETHING)
        self.assert_tells(full_store(), KINDS, *NOTHING_OPEN)

    def test_the_same_behind_40_moves(self):
        self.assert_at_40([begin(1)] + [ask(1), UNSURE] * 20, NOTHING_OPEN)
        self.assert_at_40([begin(1)] + [ask(1), UNSURE] * 19 + [ask(3), YES], SOMETHING_SAID)
        self.assert_at_40([begin(1)] + turn_over(1) * 13 + [ask(1)], SOMETHING_ASKED)
        self.assert_at_40([begin(1), say(2), PASS] + [ask(1), UNSURE] * 17 + turn_over(1) + [why(2)], WHY_SOMETHING)

    def assert_at_40(self, line, kinds):
        self.assertEqual(tells(line, TURN)[1], 40)
        self.assert_tells(line, KINDS, *kinds)
        self.assert_tells(line + [ask(1)], KINDS, *kinds)

    def test_just_these_are_not_out_of_place(self):
        lines = ([begin(2)], [begin(2), say(12)], [begin(2), ask(12)], [begin(2), say(12), why(12)],
                 [begin(2), ask(15), YES], [begin(2), say(12), ACCEPT, ask(12)])
        for line in lines:
            there = set()
            for call in list(ALONE.values()) + [form(p) for form in WITH_ONE.values() for p in propositions(line)]:
                if last(line + [call]) != -16:
                    there.add(call[0])
            self.assert_tells(line, KINDS, len(there), *sorted(there))
