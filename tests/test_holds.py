"""Promise 4: what holds, looked at behind each call of long talks."""

import functools
import itertools
import operator
import random

from tests.helper import (
    AGREED, ALONE, NO, PASS, QUARREL, TalkCase, UNSURE, WITH_ONE, YES, a_talk, ask, barred, begin, bound, drop, last,
    propositions, reason, standing, tells, told)


def long_talks(how_many, seed):
    """Talks that leave room for ten calls behind them, the same ones in every run."""
    dice = random.Random(seed)
    return [a_talk(dice, 50)[0] for talk in range(how_many)]


def beginnings(line):
    """The talk as it was behind its begin, behind its first call, and so on."""
    return [line[:size] for size in range(1, len(line) + 1)]


def all_so(m, sayings):
    """The worlds in which all of these are so."""
    return functools.reduce(operator.and_, sayings, 2 ** 2 ** m - 1)


def stores(calls):
    return [numbers[1:] for numbers in standing(calls)[2:4]]


def every_move(calls):
    return list(ALONE.values()) + [form(p) for form in WITH_ONE.values() for p in propositions(calls)]


class Holds(TalkCase):

    def test_nobody_contradicts_themselves_or_is_committed_by_the_other(self):
        for line in long_talks(150, 1):
            m = line[0][1]
            before = standing(line[:1])
            for calls in beginnings(line)[1:]:
                behind = standing(calls)
                mover = before[0][0]
                if last(calls) < 0:
                    self.assertEqual(behind, before, calls)
                else:
                    self.assertEqual(behind[0], [1 - mover, before[0][1] + 1])
                    self.assertEqual(behind[2 + 1 - mover], before[2 + 1 - mover], calls)
                    self.assertEqual(last(calls), behind[2 + mover][0])
                for numbers in behind[2:4]:
                    self.assertNotEqual(all_so(m, numbers[1:]), 0, calls)
                    self.assertLessEqual(numbers[0], 6)
                before = behind

    def test_there_is_always_a_move_till_time_is_up(self):
        for line in long_talks(150, 2):
            for calls in beginnings(line):
                (mover, made), (matter, topic) = standing(calls)[:2]
                # One of these there is always, whatever is open.
                tries = [[ask(0)], [PASS], [YES, NO, UNSURE], [drop(topic)]][matter]
                found = [last(calls + [call]) for call in tries]
                if made < 40:
                    self.assertGreaterEqual(max(found), 0, calls)
                else:
                    self.assertEqual(set(found), {-75})

    def test_time_is_up_for_every_move(self):
        ended = [line for line in long_talks(100, 3) if tells(line, [12])[1] == 40]
        self.assertGreater(len(ended), 10)
        for line in ended[:10]:
            for call in every_move(line):
                self.assertEqual(last(line + [call]), -75)
                self.assertEqual(standing(line + [call]), standing(line))

    def test_who_is_bound_can_only_say_yes_and_who_is_barred_only_no(self):
        seen = {"bound": 0, "barred": 0, "neither": 0}
        for line in long_talks(150, 4):
            for calls in beginnings(line):
                (mover, made), (matter, topic) = standing(calls)[:2]
                if matter == 2 and made < 40:
                    is_bound, is_barred = tells(calls, bound(mover, topic)), tells(calls, barred(mover, topic))
                    which = "bound" if is_bound == [1] else "barred" if is_barred == [1] else "neither"
                    seen[which] += 1
                    found = [last(calls + [call]) for call in (YES, NO, UNSURE)]
                    if which == "bound":
                        self.assertEqual([found[0] >= 0, found[1:]], [True, [-33, -61]])
                    elif which == "barred":
                        self.assertEqual([found[1] >= 0, found[0], found[2]], [True, -33, -61])
                    else:
                        self.assertGreaterEqual(found[2], 0)
        self.assertGreater(min(seen.values()), 20)

    def test_who_is_bound_or_barred_has_no_other_move(self):
        for line, only in (([begin(2), ask(15)], YES), ([begin(2), ask(0)], NO)):
            self.assertEqual([call for call in every_move(line) if last(line + [call]) >= 0], [only])

    def test_the_reason_told_binds_and_no_fewer_do(self):
        dice = random.Random(5)
        sizes = set()
        for line in long_talks(80, 5):
            for calls in beginnings(line)[::4]:
                given = [dice.choice(propositions(calls)) | dice.choice(propositions(calls)) for i in range(4)]
                # What both stores allow, for which many sayings may be wanted.
                given += [all_so(line[0][1], sayings) for sayings in stores(calls)]
                for s, p in itertools.product((0, 1), given):
                    sizes.add(self.assert_reason(calls, s, p))
        self.assertLessEqual({-33, 0, 1, 2, 3, 4, 5, 6}, sizes)

    def assert_reason(self, calls, s, p):
        (is_bound,), (size, *few) = told(calls + [bound(s, p), reason(s, p)])[-2:]
        m, sayings = calls[0][1], stores(calls)[s]
        self.assertEqual(is_bound == 1, size != -33)
        if is_bound:
            self.assertEqual(len(few), size)
            self.assertEqual([q for q in sayings if q in few], few)
            self.assertEqual(all_so(m, few) & ~p, 0)
            for fewer in itertools.combinations(sayings, max(size - 1, 0)):
                self.assertTrue(size == 0 or all_so(m, fewer) & ~p != 0, (calls, s, p))
        return size

    def test_both_can_not_be_right_just_if_there_is_a_quarrel(self):
        sizes = set()
        for line in long_talks(200, 6):
            for calls in beginnings(line)[::3]:
                sizes.add(self.assert_quarrel(calls))
        self.assertLessEqual({-33, (1, 1), (1, 2), (2, 1)}, sizes)

    def assert_quarrel(self, calls):
        (how_many, worlds), quarrel = told(calls + [AGREED, QUARREL])[-2:]
        m, (first, second) = calls[0][1], stores(calls)
        self.assertEqual(worlds, all_so(m, first + second))
        self.assertEqual(how_many, bin(worlds).count("1"))
        if worlds:
            self.assertEqual(quarrel, [-33])
            return -33
        of_first, of_second, *few = quarrel
        self.assertEqual(len(few), of_first + of_second)
        self.assertGreater(of_first, 0)
        self.assertGreater(of_second, 0)
        self.assertEqual([p for p in first if p in few[:of_first]], few[:of_first])
        self.assertEqual([p for p in second if p in few[of_first:]], few[of_first:])
        self.assertEqual(all_so(m, few), 0)
        for fewer in itertools.combinations(first + second, len(few) - 1):
            self.assertNotEqual(all_so(m, fewer), 0, calls)
        return of_first, of_second
