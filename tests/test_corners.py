"""The corners that the document names, as the calls that tell show them."""

from tests.helper import (
    ACCEPT, AGREED, COMMON, KINDS, NO, OPEN, PASS, QUARREL, STATE, TURN, TalkCase, UNSURE, YES, ask, barred, begin,
    bound, drop, full_store, last, reason, say, since, store, tells, turn_over, why, with_stores, would)

SIX = [254, 253, 251, 247, 239, 223]


class Corners(TalkCase):

    def test_an_empty_store(self):
        for m, always in ((1, 3), (2, 15), (3, 255)):
            line = [begin(m)]
            for s in (0, 1):
                self.assert_tells(line, store(s), 0)
                self.assert_tells(line, bound(s, always), 1)
                self.assert_tells(line, bound(s, always - 1), 0)
                self.assert_tells(line, barred(s, 0), 1)
                self.assert_tells(line, barred(s, 1), 0)
                self.assert_tells(line, reason(s, always), 0)
                self.assert_tells(line, reason(s, always - 1), -33)
            self.assert_tells(line, would(1), 2)
            self.assert_tells(line, AGREED, 2 ** m, always)
            self.assert_tells(line, COMMON, 2 ** m, always)
            self.assert_tells(line, QUARREL, -33)

    def test_what_is_so_always(self):
        line = [begin(2), ask(15)]
        self.assert_tells(line, OPEN, 2, 15)
        self.assert_tells(line, would(15), 1)
        # Only a yes is left, and it commits to nothing.
        self.assertEqual([last(line + [call]) for call in (YES, NO, UNSURE)], [0, -33, -61])
        self.assert_tells(line + [YES], OPEN, 1, 15)
        self.assert_tells(line + [YES], store(1), 0)
        self.assert_tells(line + [YES, ACCEPT], store(0), 0)
        self.assert_tells(line + [YES, ACCEPT], reason(1, 15), 0)

    def test_what_is_so_never(self):
        line = [begin(2), ask(0)]
        self.assert_tells(line, OPEN, 2, 0)
        self.assert_tells(line, would(0), 0)
        self.assertEqual([last(line + [call]) for call in (YES, NO, UNSURE)], [-33, 0, -61])
        self.assert_tells(line + [NO], OPEN, 1, 15)
        for calls in (line, line + [NO], [begin(2), say(8)]):
            for s in (0, 1):
                self.assert_tells(calls, bound(s, 0), 0)
                self.assert_tells(calls, barred(s, 0), 1)
                self.assert_tells(calls, reason(s, 0), -33)

    def test_one_that_follows_of_two_others(self):
        line = with_stores(2, [12, 10], [])
        self.assert_tells(line, bound(0, 8), 1)
        self.assert_tells(line, barred(0, 7), 1)
        self.assert_tells(line, reason(0, 8), 2, 12, 10)
        self.assert_tells(line, AGREED, 1, 8)
        # Asked for it, one can only say yes, and the store is the same.
        self.assert_tells(line + [ask(8)], would(8), 1)
        self.assert_tells(line + [ask(8), YES], store(0), 2, 12, 10)

    def test_a_why_of_what_was_said_but_is_not_in_the_store(self):
        line = with_stores(2, [12, 10], []) + [ask(8), YES]
        self.assert_tells(line, OPEN, 1, 8)
        self.assert_refused(line, why(8), -6)
        self.assert_tells(line + [why(8)], KINDS, 4, 3, 5, 6, 7)
        self.assert_tells(line + [why(8)], reason(0, 8), 2, 12, 10)

    def test_a_reason_that_one_is_committed_to_already(self):
        line = with_stores(2, [12, 8], []) + [why(12), since(8)]
        self.assertEqual(last(line), 2)
        self.assert_tells(line, store(0), 2, 12, 8)
        self.assert_tells(line, OPEN, 1, 8)
        self.assert_tells(line + [why(8)], OPEN, 3, 8)
        line = with_stores(2, [12, 10], []) + [why(12), since(8)]
        self.assert_tells(line, store(0), 2, 12, 10)
        self.assert_tells(line, OPEN, 1, 8)

    def test_taken_back_but_others_still_bind_to_it(self):
        line = [begin(2), say(12), PASS, say(8), PASS, drop(12)]
        self.assert_tells(line, store(0), 1, 8)
        self.assert_tells(line, bound(0, 12), 1)
        self.assert_tells(line, reason(0, 12), 1, 8)
        self.assert_tells(line + [ask(12)], would(12), 1)
        self.assert_refused(line + turn_over(2), say(12), -17)

    def test_a_store_of_six(self):
        line = full_store()
        self.assert_tells(line, store(0), 6, *SIX)
        self.assert_tells(line, STATE, 3, 6, 0, 0, 0, 12)
        self.assert_tells(line, reason(0, 192), 6, *SIX)
        # Neither bound nor barred, but there is no room.
        self.assert_tells(line, would(64), 2)
        self.assert_refused(line, say(64), -28)
        self.assert_tells(line + [say(64)], store(0), 6, *SIX)
        # Bound already, there is no need of room.
        self.assert_tells(line + turn_over(3) + [ask(192), YES], store(0), 6, *SIX)
        self.assert_tells(line + [drop(251)], store(0), 5, 254, 253, 247, 239, 223)

    def test_the_41st_move(self):
        line = [begin(2), say(12), PASS] + turn_over(2) * 12 + [ask(15), YES]
        self.assert_tells(line, TURN, 0, 40)
        shown = [TURN, OPEN, store(0), store(1), STATE, KINDS, AGREED, COMMON, QUARREL, reason(0, 12), would(3)]
        before = [tells(line, call) for call in shown]
        for call in (PASS, ACCEPT, why(15), say(3)):
            self.assertEqual(last(line + [call]), -75)
            self.assertEqual([tells(line + [call], telling) for telling in shown], before)
