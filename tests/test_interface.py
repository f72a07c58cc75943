"""The interface: the lists that are handed in and given back."""

import builtins
import contextlib
import io
import unittest
from unittest import mock

from tests.helper import (
    ACCEPT, AGREED, COMMON, KINDS, MOST, NO, OPEN, PASS, QUARREL, REJECT, STATE, TURN, UNSURE, YES, ask, barred, begin,
    bound, drop, flat, reason, say, since, store, told, why, would)
from twocommitted.talk import answers

# Sixty calls of all kinds, each with what it answers.
SIXTY = [
    (say(1), [-11]), (QUARREL, [-11]), (store(MOST), [-11]), (begin(9), [-22]), (STATE, [-11]), (begin(2), [0]),
    (STATE, [2, 0, 0, 0, 0, 0]), (TURN, [0, 0]), (OPEN, [0, 0]), (KINDS, [4, 1, 2, 3, 4]), (say(12), [1]),
    (OPEN, [1, 12]), (KINDS, [4, 3, 5, 6, 7]), (would(12), [2]), (REJECT, [1]), (QUARREL, [1, 1, 12, 3]),
    (AGREED, [0, 0]), (COMMON, [4, 15]), (why(3), [1]), (KINDS, [2, 4, 11]), (OPEN, [3, 3]), (since(1), [2]),
    (store(1), [2, 3, 1]), (reason(1, 7), [1, 3]), (reason(1, 5), [1, 1]), (reason(1, 15), [0]), (reason(1, 8), [-33]),
    (reason(2, 16), [-2]), (bound(1, 1), [1]), (bound(0, 1), [0]), (barred(0, 1), [1]), (barred(1, 16), [-22]),
    (ACCEPT, [-33]), (PASS, [1]), (ask(6), [2]), (KINDS, [3, 8, 9, 10]), (would(6), [2]), (YES, [2]),
    (store(0), [2, 12, 6]), (reason(0, 4), [2, 12, 6]), (NO, [-16]), (UNSURE, [-16]), (TURN, [1, 7]), (PASS, [2]),
    (drop(12), [1]), (store(0), [1, 6]), (COMMON, [3, 7]), (begin(MOST), [-22]), (say(MOST), [-22]),
    (STATE, [2, 1, 2, 1, 0, 9]), (begin(3), [0]), (ask(200), [0]), (OPEN, [2, 200]), (UNSURE, [0]), (AGREED, [8, 255]),
    (store(2), [-2]), (would(256), [-22]), (ask(0), [0]), (NO, [0]), (STATE, [3, 0, 0, 0, 1, 4])]
LINE = flat(call for call, numbers in SIXTY)


class Watched(list):
    """A list that can't be changed."""

    def refuse(self, *given):
        raise AssertionError("it is changed")

    __setitem__ = __delitem__ = __iadd__ = __imul__ = refuse
    append = extend = insert = pop = remove = clear = sort = reverse = refuse


class Interface(unittest.TestCase):

    def test_by_the_numbers_alone(self):
        self.assertEqual(answers([0, 2]), [1, 0])
        self.assertEqual(answers([7]), [1, -11])
        self.assertEqual(
            answers([0, 2, 1, 12, 6, 3, 3, 11, 1, 7, 2, 6, 8, 5, 2, 5, 10, 2, 5, 9, 7, 4, 12]),
            [1, 0, 1, 1, 1, 1, 1, 1, 1, 2, 1, 1, 1, 2, 1, 2, 1, -33, 1, -16, 1, -16, 1, -16, 1, -16, 1, 2, 1, 1])

    def test_the_calls_that_tell_by_the_numbers_alone(self):
        self.assertEqual(
            answers([0, 2, 1, 12, 6, 12, 13, 14, 0, 15, 1, 3, 16, 0, 3, 17, 0, 14, 18, 19, 20, 21, 22, 8, 23]),
            [1, 0, 1, 1, 1, 1, 2, 0, 2, 2, 1, 3, 2, 1, 12, 1, 1, 1, 1, 2, 1, 12, 2, 0, 0, 4, 1, 1, 12, 3, 2, 4, 15,
             5, 4, 3, 5, 6, 7, 1, 2, 6, 2, 1, 1, 0, 1, 2])
        self.assertEqual(
            answers([12, 13, 14, 0, 15, 0, 0, 16, 0, 0, 17, 0, 0, 18, 19, 20, 21, 22, 0, 23]), [1, -11] * 12)

    def test_sixty_calls_of_all_kinds(self):
        self.assertEqual(len(SIXTY), 60)
        self.assertEqual({call[0] for call, numbers in SIXTY}, set(range(24)))
        self.assertEqual(told([call for call, numbers in SIXTY]), [numbers for call, numbers in SIXTY])

    def test_what_is_handed_in_is_not_changed(self):
        handed = list(LINE)
        answers(handed)
        self.assertEqual(handed, LINE)

    def test_nor_for_a_while(self):
        handed = Watched(LINE)
        self.assertEqual(answers(handed), answers(LINE))
        self.assertEqual(list(handed), LINE)

    def test_the_same_list_twice(self):
        first = answers(LINE)
        self.assertEqual(answers(LINE), first)
        first.append(7)
        self.assertEqual(answers(LINE), first[:-1])

    def test_nothing_is_kept_from_one_time_to_the_next(self):
        alone = answers(flat([begin(2), ask(3), YES]))
        answers(flat([begin(3), say(1), ACCEPT]))
        self.assertEqual(answers(flat([say(1)])), [1, -11])
        self.assertEqual(answers(flat([begin(2), ask(3), YES])), alone)

    def test_whole_numbers_in_a_list(self):
        given_back = answers(LINE)
        self.assertIs(type(given_back), list)
        self.assertEqual({type(number) for number in given_back}, {int})

    def test_sixty_calls(self):
        self.assertEqual(answers([0, 1] * 60), [1, 0] * 60)
        self.assertEqual(answers([2, MOST] * 60), [1, -11] * 60)
        self.assertEqual(answers([0, 3] + [17, 1, 255] * 59), [1, 0] + [1, 0] * 59)

    def test_nothing_is_printed_read_or_imported(self):
        with mock.patch.object(builtins, "__import__", side_effect=AssertionError), \
                mock.patch.object(builtins, "open", side_effect=AssertionError), \
                mock.patch.object(builtins, "input", side_effect=AssertionError), \
                contextlib.redirect_stdout(io.StringIO()) as printed:
            answers(LINE)
        self.assertEqual(printed.getvalue(), "")
