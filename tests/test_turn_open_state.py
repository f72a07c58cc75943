"""Promise 3: turn, open and state, behind whatever came before them."""

from tests.helper import (
    ACCEPT, MOST, NO, OPEN, PASS, REJECT, STATE, TURN, TalkCase, UNSURE, YES, ask, begin, drop, full_store, last, say,
    since, standing, told, turn_over, why)

NOTHING_IS, SAID_IS, ASKED_IS, WHY_IS = 0, 1, 2, 3


class Standing(TalkCase):

    def assert_stands(self, calls, first, second, mover, matter, topic, made, m=2):
        """The stores, whose turn it is, what is open, that, and how many moves were made."""
        self.assertEqual(standing(calls), [
            [mover, made], [matter, topic], [len(first), *first], [len(second), *second],
            [m, len(first), len(second), mover, matter, made]], calls)

    def test_at_the_beginning(self):
        for m in (1, 2, 3):
            self.assert_stands([begin(m)], [], [], 0, NOTHING_IS, 0, 0, m)

    def test_by_the_numbers_alone(self):
        self.assertEqual(told([[0, 3], [12], [13], [23]]), [[0], [0, 0], [0, 0], [3, 0, 0, 0, 0, 0]])
        self.assertEqual(told([[0, 3], [1, 200], [12], [13], [23]])[2:], [[1, 1], [1, 200], [3, 1, 0, 1, 1, 1]])
        self.assertEqual(told([[0, 3], [2, 200], [8], [12], [13], [23]])[3:], [[0, 2], [1, 200], [3, 0, 1, 0, 1, 2]])

    def test_behind_each_kind_of_move(self):
        said = [begin(2), say(12)]
        asked = [begin(2), ask(12)]
        reason = [begin(2), say(12), why(12)]
        self.assert_stands(said, [12], [], 1, SAID_IS, 12, 1)
        self.assert_stands(asked, [], [], 1, ASKED_IS, 12, 1)
        self.assert_stands(reason, [12], [], 0, WHY_IS, 12, 2)
        self.assert_stands(said + [ACCEPT], [12], [12], 0, NOTHING_IS, 0, 2)
        self.assert_stands(said + [REJECT], [12], [3], 0, SAID_IS, 3, 2)
        self.assert_stands(said + [PASS], [12], [], 0, NOTHING_IS, 0, 2)
        self.assert_stands(said + [ACCEPT, why(12)], [12], [12], 1, WHY_IS, 12, 3)
        self.assert_stands(said + [ACCEPT, drop(12)], [], [12], 1, NOTHING_IS, 0, 3)
        self.assert_stands(asked + [YES], [], [12], 0, SAID_IS, 12, 2)
        self.assert_stands(asked + [NO], [], [3], 0, SAID_IS, 3, 2)
        self.assert_stands(asked + [UNSURE], [], [], 0, NOTHING_IS, 0, 2)
        self.assert_stands(reason + [since(8)], [12, 8], [], 1, SAID_IS, 8, 3)
        self.assert_stands(reason + [drop(12)], [], [], 1, NOTHING_IS, 0, 3)

    def test_what_is_so_never_may_be_what_is_open(self):
        self.assert_stands([begin(2), ask(0)], [], [], 1, ASKED_IS, 0, 1)
        self.assert_stands([begin(2), ask(15), YES], [], [], 0, SAID_IS, 15, 2)
        self.assert_stands([begin(3), ask(255)], [], [], 1, ASKED_IS, 255, 1, 3)

    def test_behind_a_refused_move_as_they_were(self):
        lines = (
            [begin(2)], [begin(2), say(12)], [begin(2), ask(12)], [begin(2), say(12), why(12)],
            [begin(2), say(12), ACCEPT], [begin(2), say(12), REJECT])
        calls = [say(16), say(15), say(0), ask(16), ask(MOST), why(16), why(1), drop(16), drop(1), since(16), since(3),
                 since(0), ACCEPT, REJECT, PASS, YES, NO, UNSURE]
        for line in lines:
            refused = [call for call in calls if last(line + [call]) < 0]
            self.assertGreater(len(refused), 7)
            for call in refused:
                self.assertEqual(standing(line + [call]), standing(line), (line, call))
            self.assertEqual(standing(line + refused), standing(line))

    def test_behind_40_moves_and_behind_the_41st(self):
        nothing = [begin(1)] + [ask(1), UNSURE] * 20
        said = [begin(1)] + [ask(1), UNSURE] * 19 + [ask(2), YES]
        asked = [begin(1)] + turn_over(1) * 13 + [ask(2)]
        reason = [begin(1), say(2), PASS] + [ask(1), UNSURE] * 17 + [ask(3), YES, PASS, why(2)]
        for line, stands in (
                (nothing, ([], [], 0, NOTHING_IS, 0)), (said, ([], [2], 0, SAID_IS, 2)),
                (asked, ([], [], 0, ASKED_IS, 2)), (reason, ([2], [], 0, WHY_IS, 2))):
            self.assert_stands(line, *stands, 40, 1)
            for call in (say(1), ask(1), why(2), drop(2), since(0), ACCEPT, REJECT, PASS, YES, NO, UNSURE):
                self.assertEqual(told(line + [call])[-1], [-75])
                self.assert_stands(line + [call], *stands, 40, 1)

    def test_behind_a_second_begin(self):
        midst = (
            [say(1)], [ask(1)], [say(1), why(1)], [say(1), ACCEPT], [say(1), ACCEPT, ask(1)], [say(1), REJECT],
            [ask(1), UNSURE] * 20)
        for calls in midst:
            for m in (1, 2, 3):
                self.assert_stands([begin(1)] + calls + [begin(m)], [], [], 0, NOTHING_IS, 0, 0, m)

    def test_behind_a_second_begin_that_is_refused(self):
        for m in (0, 4, MOST):
            self.assert_stands([begin(2), say(12), begin(m)], [12], [], 1, SAID_IS, 12, 1)

    def test_asking_changes_nothing(self):
        line = [begin(2), TURN, OPEN, STATE, say(12), TURN, TURN, OPEN, STATE, REJECT]
        self.assertEqual(told(line), [
            [0], [0, 0], [0, 0], [2, 0, 0, 0, 0, 0], [1], [1, 1], [1, 1], [1, 12], [2, 1, 0, 1, 1, 1], [1]])
        self.assert_stands(line, [12], [3], 0, SAID_IS, 3, 2)

    def test_a_store_of_six(self):
        self.assert_stands(full_store(), [254, 253, 251, 247, 239, 223], [], 0, NOTHING_IS, 0, 12, 3)
