"""What the tests share: the calls by their names, ways to ask them and to look about, and a model of the rules."""

import copy
import itertools
import unittest

from twocommitted.talk import answers

MOST = 4294967295


def begin(m):
    return [0, m]


def say(p):
    return [1, p]


def ask(p):
    return [2, p]


def why(p):
    return [3, p]


def drop(p):
    return [4, p]


ACCEPT = [5]
REJECT = [6]
PASS = [7]
YES = [8]
NO = [9]
UNSURE = [10]


def since(q):
    return [11, q]


TURN = [12]
OPEN = [13]
AGREED = [18]
QUARREL = [19]
COMMON = [20]
KINDS = [21]
STATE = [23]


def store(s):
    return [14, s]


def bound(s, p):
    return [15, s, p]


def barred(s, p):
    return [16, s, p]


def reason(s, p):
    return [17, s, p]


def would(p):
    return [22, p]


WITH_ONE = {"say": say, "ask": ask, "why": why, "drop": drop, "since": since}
ALONE = {"accept": ACCEPT, "reject": REJECT, "pass": PASS, "yes": YES, "no": NO, "unsure": UNSURE}

TELL_ALONE = [TURN, OPEN, AGREED, QUARREL, COMMON, KINDS, STATE]
OF_PERSON = [bound, barred, reason]


def tellings(persons, given):
    """Every call that tells, with each of these persons and of these propositions."""
    of_both = [form(s, p) for form in OF_PERSON for s in persons for p in given]
    return TELL_ALONE + [store(s) for s in persons] + of_both + [would(p) for p in given]


NOTHING = {"say", "ask", "why", "drop"}
SAID = {"accept", "reject", "pass", "why"}
ASKED = {"yes", "no", "unsure"}
WHY = {"since", "drop"}


def flat(calls):
    return [number for call in calls for number in call]


def told(calls):
    """What these calls answer, a list for each of them."""
    if not 1 <= len(calls) <= 60:
        raise AssertionError(f"{len(calls)} calls are no line")
    given_back = answers(flat(calls))
    found = []
    place = 0
    while place < len(given_back):
        size = given_back[place]
        found.append(given_back[place + 1:place + 1 + size])
        place += 1 + size
    if place != len(given_back) or len(found) != len(calls):
        raise AssertionError(f"{given_back} does not answer {calls}")
    return found


def last(calls):
    """What the last of these calls answers, which is one number."""
    (number,) = told(calls)[-1]
    return number


def tells(calls, call):
    """What this call answers behind these, as a list."""
    return told(calls + [call])[-1]


def standing(calls):
    """Whose turn it is and how many moves were made, what is open, 0's store, 1's store, and the state."""
    return told(calls + [TURN, OPEN, store(0), store(1), STATE])[-5:]


def propositions(calls):
    """All propositions of the talk that stands behind these calls."""
    letters = [call[1] for call in calls if call[0] == 0 and call[1] in (1, 2, 3)][-1]
    return range(2 ** 2 ** letters)


def probes(calls):
    """Every move, with every proposition and with some numbers that are none."""
    given = [*propositions(calls), len(propositions(calls)), MOST]
    return list(ALONE.values()) + [form(p) for form in WITH_ONE.values() for p in given]


def moves_there_are(calls):
    """The names of the moves that are open behind these calls: not every probe of them answers -16."""
    there = {name for name, call in ALONE.items() if last(calls + [call]) != -16}
    for name, form in WITH_ONE.items():
        if any(last(calls + [form(p)]) != -16 for p in propositions(calls)):
            there.add(name)
    return there


def said_behind(calls):
    """The propositions p for which a why p is not out of place: what was said, where something was."""
    return [p for p in propositions(calls) if last(calls + [why(p)]) != -16]


def why_behind(calls):
    """The propositions that may be dropped: what is asked for a reason, where why something is open."""
    return [p for p in propositions(calls) if last(calls + [drop(p)]) != -16]


def own_store(calls):
    """The store of the one whose turn it is, where nothing is open, without its order."""
    return {p for p in propositions(calls) if last(calls + [drop(p)]) != -6}


def other_store(calls):
    """The store of the one whose turn it isn't, where nothing is open, without its order."""
    return {p for p in propositions(calls) if last(calls + [why(p)]) != -6}


def moves_left(calls):
    """How many moves may still be made behind these calls, till -75 is answered."""
    line = list(calls)
    tries = [PASS, UNSURE, YES, NO, ask(0)] + [drop(p) for p in propositions(calls)]
    while last(line + [PASS]) != -75:
        line.append(next(call for call in tries if last(line + [call]) >= 0))
    return len(line) - len(calls)


def full_store():
    """Nothing is open, it's 0's turn, and 0's store has six: worlds 6 and 7 are left of eight."""
    line = [begin(3)]
    for world in range(6):
        line += [say(255 - 2 ** world), PASS]
    return line


def turn_over(m):
    """Three moves by which, where nothing is open, the turn is the other one's and no store is another."""
    return [ask(2 ** 2 ** m - 1), YES, PASS]


def with_stores(m, first, second):
    """Nothing is open, it's 1's turn, 0's store is the first of these, and 1's the second."""
    line = [begin(m)]
    for p in first:
        line += [say(p), PASS]
    line += turn_over(m)
    for p in second:
        line += [say(p), PASS]
    if standing(line)[2:4] != [[len(first), *first], [len(second), *second]]:
        raise AssertionError(f"no talk in this way comes to {first} and {second}")
    return line


class TalkCase(unittest.TestCase):

    def assert_nothing_open(self, calls):
        self.assertEqual(tells(calls, OPEN), [0, 0])
        self.assertEqual(moves_there_are(calls), NOTHING)

    def assert_said(self, calls, p):
        self.assertEqual(tells(calls, OPEN), [1, p])
        self.assertEqual(moves_there_are(calls), SAID)
        self.assertEqual(said_behind(calls), [p])

    def assert_asked(self, calls, p):
        """Asked for p: a yes says p, a no its opposite, and one of both is always free to be said."""
        self.assertEqual(tells(calls, OPEN), [2, p])
        self.assertEqual(moves_there_are(calls), ASKED)
        greatest = len(propositions(calls)) - 1
        answered = 0
        for call, said in ((YES, p), (NO, greatest - p)):
            if last(calls + [call]) >= 0:
                answered += 1
                self.assert_said(calls + [call], said)
        self.assertGreater(answered, 0)

    def assert_why(self, calls, p):
        self.assertEqual(tells(calls, OPEN), [3, p])
        self.assertEqual(moves_there_are(calls), WHY)
        self.assertEqual(why_behind(calls), [p])

    def assert_refused(self, calls, call, number):
        """The call answers this number, and everything is behind it as it was."""
        self.assertEqual(last(calls + [call]), number)
        behind = calls + [call]
        self.assertEqual(standing(behind), standing(calls))
        for probe in probes(calls):
            self.assertEqual(last(behind + [probe]), last(calls + [probe]), (calls, call, probe))
        self.assertEqual(moves_left(behind), moves_left(calls))

    def assert_tells(self, calls, call, *expected):
        self.assertEqual(tells(calls, call), list(expected), (calls, call))


class Model:
    """The document's words once more, in sets of worlds and with no regard to speed."""

    def __init__(self):
        self.worlds = None

    def answers(self, call):
        """What any call answers, as a list."""
        return self.tell(call) if call[0] > 11 else [self.answer(call)]

    def answer(self, call):
        """What begin or a move answers."""
        if call[0] == 0:
            return self.begin(call[1])
        if self.worlds is None:
            return -11
        if self.made == 40:
            return -75
        before = (self.stores, self.turn, self.matter, self.made)
        number = self.move(call)
        if number < 0:
            assert before == (self.stores, self.turn, self.matter, self.made)
            return number
        mover = self.turn
        self.turn = 1 - mover
        self.made += 1
        return len(self.stores[mover])

    def begin(self, m):
        if m not in (1, 2, 3):
            return -22
        self.worlds = frozenset(range(2 ** m))
        self.stores = {0: (), 1: ()}
        self.turn = 0
        self.matter = ("nothing",)
        self.made = 0
        return 0

    def proposition(self, number):
        """The worlds that a number tells, or None where it tells none."""
        if number >= 2 ** len(self.worlds):
            return None
        return frozenset(w for w in self.worlds if number // 2 ** w % 2 == 1)

    def number(self, worlds):
        return sum(2 ** w for w in worlds)

    def all_so_in(self, sayings):
        return {w for w in self.worlds if all(w in p for p in sayings)}

    def allowed(self, s):
        return self.all_so_in(self.stores[s])

    def bound(self, p):
        return all(w in p for w in self.allowed(self.turn))

    def barred(self, p):
        return not any(w in p for w in self.allowed(self.turn))

    def commit(self, p, matter):
        if self.barred(p):
            return -33
        if not self.bound(p):
            if len(self.stores[self.turn]) == 6:
                return -28
            self.stores = {**self.stores, self.turn: self.stores[self.turn] + (p,)}
        self.matter = matter
        return 0

    def move(self, call):
        names = [None, "say", "ask", "why", "drop", "accept", "reject", "pass", "yes", "no", "unsure", "since"]
        form = getattr(self, f"{self.matter[0]}_{names[call[0]]}", None)
        if form is None:
            return -16
        if len(call) == 1:
            return form(*self.matter[1:])
        given = self.proposition(call[1])
        if given is None:
            return -22
        return form(given, *self.matter[1:])

    def nothing_say(self, p):
        return -17 if self.bound(p) else self.commit(p, ("said", p))

    def nothing_ask(self, p):
        self.matter = ("asked", p)
        return 0

    def nothing_why(self, p):
        if p not in self.stores[1 - self.turn]:
            return -6
        self.matter = ("why", p)
        return 0

    def nothing_drop(self, p):
        if p not in self.stores[self.turn]:
            return -6
        kept = tuple(x for x in self.stores[self.turn] if x != p)
        self.stores = {**self.stores, self.turn: kept}
        self.matter = ("nothing",)
        return 0

    def said_accept(self, p):
        return self.commit(p, ("nothing",))

    def said_reject(self, p):
        return self.commit(self.worlds - p, ("said", self.worlds - p))

    def said_pass(self, p):
        self.matter = ("nothing",)
        return 0

    def said_why(self, given, p):
        return self.nothing_why(p) if given == p else -16

    def asked_yes(self, p):
        return self.commit(p, ("said", p))

    def asked_no(self, p):
        return self.commit(self.worlds - p, ("said", self.worlds - p))

    def asked_unsure(self, p):
        if self.bound(p) or self.barred(p):
            return -61
        self.matter = ("nothing",)
        return 0

    def why_since(self, q, p):
        if q == p or not q <= p:
            return -62
        return self.commit(q, ("said", q))

    def why_drop(self, given, p):
        return self.nothing_drop(p) if given == p else -16

    def tell(self, call):
        if self.worlds is None:
            return [-11]
        names = ["turn", "open", "store", "bound", "barred", "reason", "agreed", "quarrel", "common", "kinds", "would",
                 "state"]
        name = names[call[0] - 12]
        given = list(call[1:])
        if name in ("store", "bound", "barred", "reason") and given[0] not in (0, 1):
            return [-2]
        if name in ("bound", "barred", "reason", "would"):
            given[-1] = self.proposition(given[-1])
            if given[-1] is None:
                return [-22]
        return getattr(self, f"tell_{name}")(*given)

    def tell_turn(self):
        return [self.turn, self.made]

    def tell_open(self):
        return [["nothing", "said", "asked", "why"].index(self.matter[0]), sum(self.number(p) for p in self.matter[1:])]

    def tell_store(self, s):
        return [len(self.stores[s])] + [self.number(p) for p in self.stores[s]]

    def tell_bound(self, s, p):
        return [int(self.allowed(s) <= p)]

    def tell_barred(self, s, p):
        return [int(self.allowed(s).isdisjoint(p))]

    def ways(self, sayings, p):
        """The sets of as few as can be, as places, that bind to p."""
        for size in range(len(sayings) + 1):
            found = [places for places in itertools.combinations(range(len(sayings)), size)
                     if self.all_so_in([sayings[i] for i in places]) <= p]
            if found:
                return found
        return []

    def fewest(self, sayings, p):
        return min(self.ways(sayings, p), key=lambda places: sum(2 ** i for i in places))

    def tell_reason(self, s, p):
        if not self.allowed(s) <= p:
            return [-33]
        places = self.fewest(self.stores[s], p)
        return [len(places)] + [self.number(self.stores[s][i]) for i in places]

    def tell_agreed(self):
        worlds = self.allowed(0) & self.allowed(1)
        return [len(worlds), self.number(worlds)]

    def tell_common(self):
        worlds = self.allowed(0) | self.allowed(1)
        return [len(worlds), self.number(worlds)]

    def tell_quarrel(self):
        if self.allowed(0) & self.allowed(1):
            return [-33]
        places = self.fewest(self.stores[0] + self.stores[1], frozenset())
        size = len(self.stores[0])
        first = [self.number(self.stores[0][i]) for i in places if i < size]
        second = [self.number(self.stores[1][i - size]) for i in places if i >= size]
        return [len(first), len(second)] + first + second

    def tell_kinds(self):
        return {"nothing": [4, 1, 2, 3, 4], "said": [4, 3, 5, 6, 7], "asked": [3, 8, 9, 10], "why": [2, 4, 11]}[
            self.matter[0]]

    def tell_would(self, p):
        if self.bound(p):
            return [1]
        return [0] if self.barred(p) else [2]

    def tell_state(self):
        letters = {2: 1, 4: 2, 8: 3}[len(self.worlds)]
        return [letters, len(self.stores[0]), len(self.stores[1]), self.turn, self.tell_open()[0], self.made]


def a_call(dice, limit):
    """A begin that is refused, or any move."""
    if dice.random() < 0.01:
        return begin(dice.choice((0, 4, MOST)))
    if dice.random() < 0.4:
        return dice.choice(list(ALONE.values()))
    given = dice.choice((dice.randrange(limit), limit - 1 - 2 ** dice.randrange(limit.bit_length() - 1), limit, 0))
    return dice.choice(list(WITH_ONE.values()))(given)


def a_talk(dice, most):
    """So many calls at most, and what they answer; most of them are moves that the model does not refuse."""
    model = Model()
    letters = dice.choice((1, 2, 2, 3, 3, 3))
    # Some talks with next to no refusals, so that time is up in them early.
    passed_over = dice.choice((0.9, 0.99))
    # Few talks would come to a store of six by themselves.
    line = full_store() if letters == 3 and dice.random() < 0.5 else [begin(letters)]
    numbers = [model.answer(call) for call in line]
    while len(line) < most:
        call = a_call(dice, 2 ** 2 ** letters)
        if dice.random() < passed_over and -75 < copy.copy(model).answer(call) < 0:
            continue
        line.append(call)
        numbers.append(model.answer(call))
        if numbers[-1] == -75 and dice.random() < 0.5:
            break
    return line, numbers
