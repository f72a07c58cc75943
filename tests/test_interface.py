"""The interface: the lists that are handed in and given back."""

import builtins
import contextlib
import io
import unittest
from unittest import mock

from tests.helper import ACCEPT, MOST, NO, PASS, REJECT, UNSURE, YES, ask, begin, drop, flat, say, since, why
from twocommitted.talk import answers

LINE = flat([
    say(1), begin(9), begin(2), say(12), REJECT, why(3), since(1), ACCEPT, PASS, ask(6), YES, NO, UNSURE, drop(3),
    begin(MOST), say(MOST), begin(3), ask(200), UNSURE])


class Interface(unittest.TestCase):

    def test_by_the_numbers_alone(self):
        self.assertEqual(answers([0, 2]), [1, 0])
        self.assertEqual(answers([7]), [1, -11])
        self.assertEqual(
            answers([0, 2, 1, 12, 6, 3, 3, 11, 1, 7, 2, 6, 8, 5, 2, 5, 10, 2, 5, 9, 7, 4, 12]),
            [1, 0, 1, 1, 1, 1, 1, 1, 1, 2, 1, 1, 1, 2, 1, 2, 1, -33, 1, -16, 1, -16, 1, -16, 1, -16, 1, 2, 1, 1])

    def test_what_is_handed_in_is_not_changed(self):
        handed = list(LINE)
        answers(handed)
        self.assertEqual(handed, LINE)

    def test_the_same_list_twice(self):
        first = answers(LINE)
        self.assertEqual(answers(LINE), first)
        first.append(7)
        self.assertEqual(answers(LINE), first[:-1])

    def test_nothing_is_kept_from_one_time_to_the_next(self):
        alone = answers(flat([begin(2), ask(3), YES]))
        answers(flat([begin(3), say(1), ACCEPT]))
        self.assertEqual(answers(flat([say(1)])), [1, -11])
        self.assertEqual(answers(flat([begin(2), ask(3), YES])), alone)

    def test_whole_numbers_in_a_list(self):
        given_back = answers(LINE)
        self.assertIs(type(given_back), list)
        self.assertEqual({type(number) for number in given_back}, {int})

    def test_sixty_calls(self):
        self.assertEqual(answers([0, 1] * 60), [1, 0] * 60)
        self.assertEqual(answers([2, MOST] * 60), [1, -11] * 60)

    def test_nothing_is_printed_read_or_imported(self):
        with mock.patch.object(builtins, "__import__", side_effect=AssertionError), \
                mock.patch.object(builtins, "open", side_effect=AssertionError), \
                mock.patch.object(builtins, "input", side_effect=AssertionError), \
                contextlib.redirect_stdout(io.StringIO()) as printed:
            answers(LINE)
        self.assertEqual(printed.getvalue(), "")
