"""The twelve calls that tell how a talk stands, each as the list of numbers that it answers; none changes the talk."""

from twocommitted.moves import MOVES_FOR
from twocommitted.propositions import excludes, fewest_places_that_bind, how_many_worlds, is_proposition
from twocommitted.refusals import CANNOT_BE, NO_SUCH_PERSON, NOT_RIGHT

NEVER_SO = 0

# The two calls that are given something else than all others: store a person alone, would a proposition alone.
STORE = 14
WOULD = 22


def turn(record):
    return [record.mover, record.moves_made]


def what_is_open(record):
    return [record.matter, record.topic]


def agreed(record):
    worlds = record.worlds_of(0) & record.worlds_of(1)
    return [how_many_worlds(worlds), worlds]


def common(record):
    worlds = record.worlds_of(0) | record.worlds_of(1)
    return [how_many_worlds(worlds), worlds]


def quarrel(record):
    if not excludes(record.worlds_of(0), record.worlds_of(1)):
        return [CANNOT_BE]
    # Sayings that can't all be so are just those that bind to what is so never.
    sayings = record.stores[0] + record.stores[1]
    places = fewest_places_that_bind(record.letters, sayings, NEVER_SO)
    of_first = len([place for place in places if place < len(record.stores[0])])
    return [of_first, len(places) - of_first] + [sayings[place] for place in places]


def kinds(record):
    moves = list(MOVES_FOR[record.matter])
    return [len(moves)] + moves


def state(record):
    sizes = [len(record.stores[0]), len(record.stores[1])]
    return [record.letters] + sizes + [record.mover, record.matter, record.moves_made]


def store_of(record, person):
    return [len(record.stores[person])] + record.stores[person]


def bound(record, person, proposition):
    return [1 if record.is_bound(person, proposition) else 0]


def barred(record, person, proposition):
    return [1 if record.is_barred(person, proposition) else 0]


def reason(record, person, proposition):
    if not record.is_bound(person, proposition):
        return [CANNOT_BE]
    sayings = record.stores[person]
    places = fewest_places_that_bind(record.letters, sayings, proposition)
    return [len(places)] + [sayings[place] for place in places]


def would(record, proposition):
    if not is_proposition(record.letters, proposition):
        return [NOT_RIGHT]
    if record.is_bound(record.mover, proposition):
        return [1]
    if record.is_barred(record.mover, proposition):
        return [0]
    return [2]


# The calls that are given nothing, and those that are given a person and a proposition.
TELLINGS_BARE = {12: turn, 13: what_is_open, 18: agreed, 19: quarrel, 20: common, 21: kinds, 23: state}
TELLINGS_OF_BOTH = {15: bound, 16: barred, 17: reason}


def tell_of_person(record, number, given):
    person = given[0]
    if person > 1:
        return [NO_SUCH_PERSON]
    if number == STORE:
        return store_of(record, person)
    if not is_proposition(record.letters, given[1]):
        return [NOT_RIGHT]
    return TELLINGS_OF_BOTH[number](record, person, given[1])


def tell(record, number, given):
    if number in TELLINGS_BARE:
        return TELLINGS_BARE[number](record)
    if number == WOULD:
        return would(record, given[0])
    return tell_of_person(record, number, given)
