"""What the tests share: the calls by their names, ways to ask them and to look about, and a model of the rules."""

import unittest

from twocommitted.talk import answers

MOST = 4294967295


def begin(m):
    return [0, m]


def say(p):
    return [1, p]


def ask(p):
    return [2, p]


def why(p):
    return [3, p]


def drop(p):
    return [4, p]


ACCEPT = [5]
REJECT = [6]
PASS = [7]
YES = [8]
NO = [9]
UNSURE = [10]


def since(q):
    return [11, q]


WITH_ONE = {"say": say, "ask": ask, "why": why, "drop": drop, "since": since}
ALONE = {"accept": ACCEPT, "reject": REJECT, "pass": PASS, "yes": YES, "no": NO, "unsure": UNSURE}

NOTHING = {"say", "ask", "why", "drop"}
SAID = {"accept", "reject", "pass", "why"}
ASKED = {"yes", "no", "unsure"}
WHY = {"since", "drop"}


def flat(calls):
    return [number for call in calls for number in call]


def told(calls):
    """What these calls answer, a list for each of them."""
    if not 1 <= len(calls) <= 60:
        raise AssertionError(f"{len(calls)} calls are no line")
    given_back = answers(flat(calls))
    found = []
    place = 0
    while place < len(given_back):
        size = given_back[place]
        found.append(given_back[place + 1:place + 1 + size])
        place += 1 + size
    if place != len(given_back) or len(found) != len(calls):
        raise AssertionError(f"{given_back} does not answer {calls}")
    return found


def last(calls):
    """What the last of these calls answers, which is one number."""
    (number,) = told(calls)[-1]
    return number


def propositions(calls):
    """All propositions of the talk that stands behind these calls."""
    letters = [call[1] for call in calls if call[0] == 0 and call[1] in (1, 2, 3)][-1]
    return range(2 ** 2 ** letters)


def probes(calls):
    """Every move, with every proposition and with some numbers that are none."""
    given = [*propositions(calls), len(propositions(calls)), MOST]
    return list(ALONE.values()) + [form(p) for form in WITH_ONE.values() for p in given]


def moves_there_are(calls):
    """The names of the moves that are open behind these calls: not every probe of them answers -16."""
    there = {name for name, call in ALONE.items() if last(calls + [call]) != -16}
    for name, form in WITH_ONE.items():
        if any(last(calls + [form(p)]) != -16 for p in propositions(calls)):
            there.add(name)
    return there


def said_behind(calls):
    """The propositions p for which a why p is not out of place: what was said, where something was."""
    return [p for p in propositions(calls) if last(calls + [why(p)]) != -16]


def why_behind(calls):
    """The propositions that may be dropped: what is asked for a reason, where why something is open."""
    return [p for p in propositions(calls) if last(calls + [drop(p)]) != -16]


def own_store(calls):
    """The store of the one whose turn it is, where nothing is open, without its order."""
    return {p for p in propositions(calls) if last(calls + [drop(p)]) != -6}


def other_store(calls):
    """The store of the one whose turn it isn't, where nothing is open, without its order."""
    return {p for p in propositions(calls) if last(calls + [why(p)]) != -6}


def moves_left(calls):
    """How many moves may still be made behind these calls, till -75 is answered."""
    line = list(calls)
    tries = [PASS, UNSURE, YES, NO, ask(0)] + [drop(p) for p in propositions(calls)]
    while last(line + [PASS]) != -75:
        line.append(next(call for call in tries if last(line + [call]) >= 0))
    return len(line) - len(calls)


def full_store():
    """Nothing is open, it's 0's turn, and 0's store has six: worlds 6 and 7 are left of eight."""
    line = [begin(3)]
    for world in range(6):
        line += [say(255 - 2 ** world), PASS]
    return line


def turn_over(m):
    """Three moves by which, where nothing is open, the turn is the other one's and no store is another."""
    return [ask(2 ** 2 ** m - 1), YES, PASS]


class TalkCase(unittest.TestCase):

    def assert_nothing_open(self, calls):
        self.assertEqual(moves_there_are(calls), NOTHING)

    def assert_said(self, calls, p):
        self.assertEqual(moves_there_are(calls), SAID)
        self.assertEqual(said_behind(calls), [p])

    def assert_asked(self, calls, p):
        """Asked for p: a yes says p, a no its opposite, and one of both is always free to be said."""
        self.assertEqual(moves_there_are(calls), ASKED)
        greatest = len(propositions(calls)) - 1
        answered = 0
        for call, said in ((YES, p), (NO, greatest - p)):
            if last(calls + [call]) >= 0:
                answered += 1
                self.assert_said(calls + [call], said)
        self.assertGreater(answered, 0)

    def assert_why(self, calls, p):
        self.assertEqual(moves_there_are(calls), WHY)
        self.assertEqual(why_behind(calls), [p])

    def assert_refused(self, calls, call, number):
        """The call answers this number, and everything is behind it as it was."""
        self.assertEqual(last(calls + [call]), number)
        behind = calls + [call]
        for probe in probes(calls):
            self.assertEqual(last(behind + [probe]), last(calls + [probe]), (calls, call, probe))
        self.assertEqual(moves_left(behind), moves_left(calls))


class Model:
    """The document's words once more, in sets of worlds and with no regard to speed."""

    def __init__(self):
        self.worlds = None

    def answer(self, call):
        if call[0] == 0:
            return self.begin(call[1])
        if self.worlds is None:
            return -11
        if self.made == 40:
            return -75
        before = (self.stores, self.turn, self.matter, self.made)
        number = self.move(call)
        if number < 0:
            assert before == (self.stores, self.turn, self.matter, self.made)
            return number
        mover = self.turn
        self.turn = 1 - mover
        self.made += 1
        return len(self.stores[mover])

    def begin(self, m):
        if m not in (1, 2, 3):
            return -22
        self.worlds = frozenset(range(2 ** m))
        self.stores = {0: (), 1: ()}
        self.turn = 0
        self.matter = ("nothing",)
        self.made = 0
        return 0

    def proposition(self, number):
        """The worlds that a number tells, or None where it tells none."""
        if number >= 2 ** len(self.worlds):
            return None
        return frozenset(w for w in self.worlds if number // 2 ** w % 2 == 1)

    def allowed(self):
        return [w for w in self.worlds if all(w in p for p in self.stores[self.turn])]

    def bound(self, p):
        return all(w in p for w in self.allowed())

    def barred(self, p):
        return not any(w in p for w in self.allowed())

    def commit(self, p, matter):
        if self.barred(p):
            return -33
        if not self.bound(p):
            if len(self.stores[self.turn]) == 6:
                return -28
            self.stores = {**self.stores, self.turn: self.stores[self.turn] + (p,)}
        self.matter = matter
        return 0

    def move(self, call):
        names = [None, "say", "ask", "why", "drop", "accept", "reject", "pass", "yes", "no", "unsure", "since"]
        form = getattr(self, f"{self.matter[0]}_{names[call[0]]}", None)
        if form is None:
            return -16
        if len(call) == 1:
            return form(*self.matter[1:])
        given = self.proposition(call[1])
        if given is None:
            return -22
        return form(given, *self.matter[1:])

    def nothing_say(self, p):
        return -17 if self.bound(p) else self.commit(p, ("said", p))

    def nothing_ask(self, p):
        self.matter = ("asked", p)
        return 0

    def nothing_why(self, p):
        if p not in self.stores[1 - self.turn]:
            return -6
        self.matter = ("why", p)
        return 0

    def nothing_drop(self, p):
        if p not in self.stores[self.turn]:
            return -6
        kept = tuple(x for x in self.stores[self.turn] if x != p)
        self.stores = {**self.stores, self.turn: kept}
        self.matter = ("nothing",)
        return 0

    def said_accept(self, p):
        return self.commit(p, ("nothing",))

    def said_reject(self, p):
        return self.commit(self.worlds - p, ("said", self.worlds - p))

    def said_pass(self, p):
        self.matter = ("nothing",)
        return 0

    def said_why(self, given, p):
        return self.nothing_why(p) if given == p else -16

    def asked_yes(self, p):
        return self.commit(p, ("said", p))

    def asked_no(self, p):
        return self.commit(self.worlds - p, ("said", self.worlds - p))

    def asked_unsure(self, p):
        if self.bound(p) or self.barred(p):
            return -61
        self.matter = ("nothing",)
        return 0

    def why_since(self, q, p):
        if q == p or not q <= p:
            return -62
        return self.commit(q, ("said", q))

    def why_drop(self, given, p):
        return self.nothing_drop(p) if given == p else -16
