"""Promises 1 to 3 against the model: all short talks with one letter, and many long ones."""

import functools
import operator
import random
import unittest

from tests.helper import (
    ALONE, MOST, Model, OF_PERSON, QUARREL, TELL_ALONE, a_talk, begin, last, probes, store, tellings, tells,
    told, with_stores, would)


def model_behind(calls):
    model = Model()
    for call in calls:
        model.answer(call)
    return model


# Each call with the refusals that its promise names; -75 and -16 every move has.
EVERY_REFUSAL = {(move, number) for move in range(1, 12) for number in (-75, -16)} | {
    (0, -22), (1, -22), (1, -17), (1, -33), (1, -28), (2, -22), (3, -22), (3, -6), (4, -22), (4, -6), (5, -33),
    (5, -28), (6, -33), (6, -28), (8, -33), (8, -28), (9, -33), (9, -28), (10, -61), (11, -22), (11, -62), (11, -33),
    (11, -28)}


class ShortTalks(unittest.TestCase):

    def test_every_call_behind_every_short_talk(self):
        lines = [[begin(1)]]
        for depth in range(4):
            longer = []
            for line in lines:
                for probe in probes(line):
                    number = model_behind(line).answer(probe)
                    self.assertEqual(last(line + [probe]), number, line + [probe])
                    if number >= 0:
                        longer.append(line + [probe])
            lines = longer
        self.assertGreater(len(lines), 100)


class LongTalks(unittest.TestCase):

    def test_long_talks(self):
        # The seed is written down, so that every run sees the same talks.
        dice = random.Random(20261116)
        seen = set()
        for talk in range(1500):
            line, numbers = a_talk(dice, 60)
            if dice.random() < 0.3:
                line = [dice.choice(list(ALONE.values()))] + line[:59]
                numbers = [-11] + numbers[:59]
            self.assertEqual(told(line), [[number] for number in numbers], line)
            seen |= {(call[0], number) for call, number in zip(line, numbers) if number < 0}
            self.check_without_refusals(line, numbers)
        self.assertLessEqual(EVERY_REFUSAL, seen)

    def check_without_refusals(self, line, numbers):
        """What is refused changes nothing: the talk without it answers the same."""
        kept = [(call, number) for call, number in zip(line, numbers) if number >= 0]
        self.assertEqual(told([call for call, number in kept]), [[number] for call, number in kept])


# Each call that tells with the refusals that its promise names.
EVERY_REFUSAL_TOLD = {(telling, -11) for telling in range(12, 24)} | {
    (14, -2), (15, -2), (15, -22), (16, -2), (16, -22), (17, -2), (17, -22), (17, -33), (19, -33), (22, -22)}


class Tellings(unittest.TestCase):

    def test_every_telling_behind_every_short_talk(self):
        lines = [[begin(1)]]
        asked = tellings((0, 1, 2), range(5))
        for depth in range(4):
            for line in lines:
                self.compare(line, asked)
            lines = [line + [probe] for line in lines for probe in probes(line) if last(line + [probe]) >= 0]
        self.assertGreater(len(lines), 100)

    def compare(self, line, asked):
        model = model_behind(line)
        # A line has at most 60 calls.
        size = 60 - len(line)
        for place in range(0, len(asked), size):
            part = asked[place:place + size]
            self.assertEqual(told(line + part)[len(line):], [model.answers(call) for call in part], (line, part))

    def a_telling(self, dice, limit):
        s = dice.choice((0, 0, 0, 1, 1, 1, 2, MOST))
        p = dice.choice((dice.randrange(limit), dice.randrange(limit), limit - 1, limit, MOST, 0))
        return dice.choice(TELL_ALONE + [store(s), would(p)] + [form(s, p) for form in OF_PERSON])

    def test_among_long_talks(self):
        """The calls that tell between those that move: each tells what is so there, and nothing is another by it."""
        dice = random.Random(20261117)
        seen = set()
        for talk in range(1500):
            moves, numbers = a_talk(dice, dice.choice((20, 30, 40, 50)))
            limit = 2 ** 2 ** moves[0][1]
            line = list(moves)
            while len(line) < 60:
                # Ahead of the begin, too.
                line.insert(dice.randrange(len(line) + 1), self.a_telling(dice, limit))
            model = Model()
            expected = [model.answers(call) for call in line]
            self.assertEqual(told(line), expected, line)
            self.assertEqual([answer for call, answer in zip(line, expected) if call[0] <= 11], [[n] for n in numbers])
            seen |= {(call[0], answer[0]) for call, answer in zip(line, expected) if call[0] > 11 and answer[0] < 0}
        self.assertEqual(EVERY_REFUSAL_TOLD, seen)

    def a_store(self, dice, m):
        """Propositions that one may commit oneself to, one behind another."""
        found = []
        allowed = 2 ** 2 ** m - 1
        for p in [dice.randrange(1, 2 ** 2 ** m) | dice.randrange(2 ** 2 ** m) for i in range(dice.randrange(16))]:
            if len(found) < 6 and p & allowed not in (0, allowed):
                found.append(p)
                allowed &= p
        return found

    def what_may_follow(self, dice, m, sayings):
        """Some propositions of which many follow of a few of these."""
        found = [dice.randrange(2 ** 2 ** m) for i in range(6)]
        while sayings and len(found) < 20:
            few = dice.choices(sayings, k=dice.randrange(1, 4))
            found.append(functools.reduce(operator.and_, few) | 2 ** dice.randrange(2 ** m))
        return found

    def test_stores_of_all_sizes(self):
        dice = random.Random(20261118)
        several, quarrels = 0, set()
        for m in [2] * 100 + [3] * 300:
            first, second = self.a_store(dice, m), self.a_store(dice, m)
            line = with_stores(m, first, second)
            given = self.what_may_follow(dice, m, first) + self.what_may_follow(dice, m, second)
            self.compare(line, tellings((0, 1), given))
            several += self.ways_of_which_the_first_is_not_the_least(model_behind(line), given)
            quarrels.add(tuple(tells(line, QUARREL)[:2]))
        self.assertGreater(several, 10)
        self.assertLessEqual({(1, 1), (1, 2), (2, 1), (2, 2), (3, 1), (1, 3)}, quarrels)

    def ways_of_which_the_first_is_not_the_least(self, model, given):
        """How many reasons need the sets' numbers: by the places alone another set would come first."""
        found = 0
        for s in (0, 1):
            for p in [model.proposition(p) for p in given]:
                ways = model.ways(model.stores[s], p)
                if ways and ways[0] != model.fewest(model.stores[s], p):
                    found += 1
        return found
