"""Promise 2: the 41st move, and what counts as one."""

from tests.helper import (
    ACCEPT, MOST, PASS, TalkCase, UNSURE, YES, ask, begin, drop, last, moves_left, probes, say, since, told,
    turn_over, why)


class TimeIsUp(TalkCase):

    def assert_time_is_up(self, line):
        for probe in probes(line):
            self.assertEqual(last(line + [probe]), -75, probe)

    def test_the_41st_move_whatever_is_open(self):
        nothing = [begin(1)] + [ask(1), UNSURE] * 20
        said = [begin(1)] + [ask(1), UNSURE] * 19 + [ask(3), YES]
        asked = [begin(1)] + turn_over(1) * 13 + [ask(1)]
        reason = [begin(1), say(1), ACCEPT] + [ask(3), YES, ACCEPT] * 12 + [say(1), why(1)]
        for line in (nothing, said, asked):
            self.assertEqual(len(line), 41)
            self.assertTrue(all(number >= 0 for (number,) in told(line)))
            self.assert_time_is_up(line)
        # A refused say among them does not count: one more move is left, and then none.
        self.assertEqual(told(reason)[-2:], [[-17], [1]])
        self.assertEqual(moves_left(reason), 1)
        self.assert_time_is_up(reason + [drop(1)])

    def test_the_40th_move_may_be_made(self):
        line = [begin(2)] + [ask(3), UNSURE] * 19 + [ask(3)]
        self.assertEqual(last(line + [YES]), 1)
        self.assertEqual(last(line + [YES, ACCEPT]), -75)
        self.assertEqual(last(line + [UNSURE, say(3)]), -75)

    def test_it_goes_ahead_of_every_other_refusal(self):
        line = [begin(2)] + [ask(3), UNSURE] * 20
        for call in (say(16), say(15), say(0), ask(16), why(16), why(1), drop(MOST), drop(1), ACCEPT, since(16)):
            self.assertEqual(last(line + [call]), -75)

    def test_what_is_refused_does_not_count(self):
        line = [begin(2)] + [say(16), say(0), ACCEPT, drop(3), why(3)] * 3 + [ask(3), UNSURE] * 20
        self.assertEqual([number for (number,) in told(line)].count(-75), 0)
        self.assertEqual(moves_left(line), 0)
        self.assertEqual(moves_left(line[:-1]), 1)

    def test_each_move_counts_one(self):
        line = [begin(2), say(14), why(14), since(12), PASS, ask(6), YES, ACCEPT, drop(6)]
        for made in range(len(line)):
            self.assertEqual(moves_left(line[:made + 1]), 40 - made)
