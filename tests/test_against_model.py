"""Promises 1 and 2 against the model: all short talks with one letter, and many long ones."""

import copy
import random
import unittest

from tests.helper import ALONE, MOST, Model, WITH_ONE, begin, full_store, last, probes, told


def model_behind(calls):
    model = Model()
    for call in calls:
        model.answer(call)
    return model


# Each call with the refusals that its promise names; -75 and -16 every move has.
EVERY_REFUSAL = {(move, number) for move in range(1, 12) for number in (-75, -16)} | {
    (0, -22), (1, -22), (1, -17), (1, -33), (1, -28), (2, -22), (3, -22), (3, -6), (4, -22), (4, -6), (5, -33),
    (5, -28), (6, -33), (6, -28), (8, -33), (8, -28), (9, -33), (9, -28), (10, -61), (11, -22), (11, -62), (11, -33),
    (11, -28)}


class ShortTalks(unittest.TestCase):

    def test_every_call_behind_every_short_talk(self):
        lines = [[begin(1)]]
        for depth in range(4):
            longer = []
            for line in lines:
                for probe in probes(line):
                    number = model_behind(line).answer(probe)
                    self.assertEqual(last(line + [probe]), number, line + [probe])
                    if number >= 0:
                        longer.append(line + [probe])
            lines = longer
        self.assertGreater(len(lines), 100)


class LongTalks(unittest.TestCase):

    def test_long_talks(self):
        # The seed is written down, so that every run sees the same talks.
        dice = random.Random(20261116)
        seen = set()
        for talk in range(1500):
            line, numbers = self.a_talk(dice)
            self.assertEqual(told(line), [[number] for number in numbers], line)
            seen |= {(call[0], number) for call, number in zip(line, numbers) if number < 0}
            self.check_without_refusals(line, numbers)
        self.assertLessEqual(EVERY_REFUSAL, seen)

    def a_talk(self, dice):
        """Fifty-odd calls; most of them are moves that the model does not refuse."""
        model = Model()
        letters = dice.choice((1, 2, 2, 3, 3, 3))
        # Few talks would come to a store of six by themselves.
        line = full_store() if letters == 3 and dice.random() < 0.5 else [begin(letters)]
        numbers = [model.answer(call) for call in line]
        while len(line) < 60:
            call = self.a_call(dice, 2 ** 2 ** letters)
            if dice.random() < 0.9 and -75 < copy.copy(model).answer(call) < 0:
                continue
            line.append(call)
            numbers.append(model.answer(call))
            if numbers[-1] == -75 and dice.random() < 0.5:
                break
        if dice.random() < 0.3:
            line = [dice.choice(list(ALONE.values()))] + line[:59]
            numbers = [-11] + numbers[:59]
        return line, numbers

    def a_call(self, dice, limit):
        if dice.random() < 0.01:
            return begin(dice.choice((0, 4, MOST)))
        if dice.random() < 0.4:
            return dice.choice(list(ALONE.values()))
        given = dice.choice((dice.randrange(limit), limit - 1 - 2 ** dice.randrange(limit.bit_length() - 1), limit, 0))
        return dice.choice(list(WITH_ONE.values()))(given)

    def check_without_refusals(self, line, numbers):
        """What is refused changes nothing: the talk without it answers the same."""
        kept = [(call, number) for call, number in zip(line, numbers) if number >= 0]
        self.assertEqual(told([call for call, number in kept]), [[number] for call, number in kept])
