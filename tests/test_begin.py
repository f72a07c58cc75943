"""Promise 1: begin, and what there is before one that answers 0."""

from tests.helper import (
    ACCEPT, ALONE, MOST, NO, PASS, TalkCase, WITH_ONE, YES, ask, begin, drop, last, moves_left, other_store, own_store,
    probes, say, since, standing, tellings, told, why)

EVERY_TELLING = tellings((0, 1, 2, MOST), (0, 3, 4, MOST))
EVERY_MOVE = list(ALONE.values()) + [form(p) for form in WITH_ONE.values() for p in (0, 1, 3, 4, MOST)]


class Begin(TalkCase):

    def test_letters_are_one_to_three(self):
        for m, number in ((0, -22), (1, 0), (2, 0), (3, 0), (4, -22), (255, -22), (MOST, -22)):
            self.assertEqual(told([begin(m)]), [[number]], m)

    def test_every_move_before_a_begin(self):
        for call in EVERY_MOVE:
            self.assertEqual(told([call]), [[-11]], call)
        self.assertEqual(told(EVERY_MOVE), [[-11]] * len(EVERY_MOVE))
        self.assertEqual(told(EVERY_MOVE + [begin(1)])[-1], [0])

    def test_every_move_behind_a_refused_begin(self):
        for m in (0, 4, MOST):
            for call in EVERY_MOVE:
                self.assertEqual(told([begin(m), call]), [[-22], [-11]], (m, call))

    def test_every_telling_before_a_begin(self):
        self.assertEqual({call[0] for call in EVERY_TELLING}, set(range(12, 24)))
        for call in EVERY_TELLING:
            self.assertEqual(told([call]), [[-11]], call)
            self.assertEqual(told([call, call, begin(1)]), [[-11], [-11], [0]], call)

    def test_every_telling_behind_a_refused_begin(self):
        for m in (0, 4, MOST):
            for call in EVERY_TELLING:
                self.assertEqual(told([begin(m), call]), [[-22], [-11]], (m, call))
                self.assertEqual(told([call, begin(m), call, say(1)]), [[-11], [-22], [-11], [-11]], (m, call))

    def test_what_was_refused_before_a_begin_leaves_no_trace(self):
        line = [say(1), ask(1), begin(0), YES, begin(4), begin(2)]
        self.assertEqual(told(line), [[-11], [-11], [-22], [-11], [-22], [0]])
        self.assert_like_new(line, 2)

    def test_a_new_talk(self):
        for m in (1, 2, 3):
            self.assert_nothing_open([begin(m)])
            self.assertEqual(own_store([begin(m)]), set())
            self.assertEqual(other_store([begin(m)]), set())
            self.assertEqual(moves_left([begin(m)]), 40)

    def test_the_turn_passes(self):
        line = [begin(2), say(3), PASS]
        self.assertEqual(own_store(line), {3})
        self.assertEqual(other_store(line), set())

    def assert_like_new(self, line, m):
        for probe in probes([begin(m)]):
            self.assertEqual(last(line + [probe]), last([begin(m), probe]), probe)
        self.assertEqual(standing(line), [[0, 0], [0, 0], [0], [0], [m, 0, 0, 0, 0, 0]])
        self.assertEqual(own_store(line), set())
        self.assertEqual(other_store(line), set())
        self.assertEqual(moves_left(line), 40)
        # Who says something has it, and the other one has nothing.
        self.assertEqual(own_store(line + [say(1), PASS]), {1})
        self.assertEqual(other_store(line + [say(1), PASS]), set())

    def test_a_second_begin_in_the_midst(self):
        first = [begin(2), say(3), ACCEPT]
        midst = (
            [begin(2)], first, first + [say(5)], first + [ask(5)], first + [why(3)], first + [ask(3), YES],
            first + [why(3), since(1)], first + [ask(5), NO], first + [drop(3)])
        for line in midst:
            for m in (1, 2, 3):
                self.assertEqual(last(line + [begin(m)]), 0)
                self.assert_like_new(line + [begin(m)], m)

    def test_a_second_begin_when_time_is_up(self):
        line = [begin(2)] + [ask(15), YES, PASS] * 13 + [ask(15)]
        self.assertEqual(last(line + [YES]), -75)
        self.assertEqual(last(line + [begin(4)]), -22)
        self.assertEqual(last(line + [begin(4), YES]), -75)
        self.assertEqual(last(line + [begin(2)]), 0)
        for probe in probes([begin(2)]):
            self.assertEqual(last(line + [begin(2), probe]), last([begin(2), probe]), probe)
        self.assertEqual(told(line + [begin(2)] + [ask(15), YES, PASS] * 6)[-18:], [[0]] * 18)

    def test_a_second_begin_that_is_refused_changes_nothing(self):
        first = [begin(2), say(3), ACCEPT]
        for line in (first, first + [say(5)], first + [ask(5)], first + [why(3)]):
            for m in (0, 4, MOST):
                self.assert_refused(line, begin(m), -22)

    def test_a_second_begin_may_have_other_letters(self):
        self.assertEqual(last([begin(1), begin(3), say(254)]), 1)
        self.assertEqual(last([begin(3), begin(1), say(254)]), -22)


class Letters(TalkCase):

    def test_the_greatest_proposition_and_the_first_number_behind(self):
        for m, greatest in ((1, 3), (2, 15), (3, 255)):
            # The greatest is so always: one is bound to it, and barred from its opposite.
            self.assert_refused([begin(m)], say(greatest), -17)
            self.assertEqual(last([begin(m), ask(greatest)]), 0)
            self.assert_asked([begin(m), ask(greatest)], greatest)
            self.assert_refused([begin(m)], why(greatest), -6)
            self.assert_refused([begin(m)], drop(greatest), -6)
            for none in (greatest + 1, greatest + 2, 2 * greatest + 1, 256, 65536, MOST):
                for form in (say, ask, why, drop):
                    self.assertEqual(last([begin(m), form(none)]), -22, (m, none))
                self.assertEqual(last([begin(m), say(1), why(none)]), -22)
                self.assertEqual(last([begin(m), say(1), why(1), since(none)]), -22)
                self.assertEqual(last([begin(m), say(1), why(1), drop(none)]), -22)

    def test_the_greatest_proposition_but_one_may_be_said(self):
        for m, p in ((1, 2), (2, 14), (3, 254)):
            self.assertEqual(last([begin(m), say(p)]), 1)
            self.assert_said([begin(m), say(p)], p)
