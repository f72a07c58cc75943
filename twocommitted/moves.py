"""The eleven moves, each on the record of a talk; each answers how many the mover's store has then."""

from twocommitted.propositions import follows, is_proposition, opposite
from twocommitted.record import ASKED, NOTHING, SAID, WHY_SO
from twocommitted.refusals import NO_REASON, NOT_IN_STORE, NOT_OPEN, NOT_RIGHT, NOT_UNSURE, SO_ALREADY, TIME_IS_UP

MOST_MOVES = 40

# Moves go by their numbers in the interface: say 1, ask 2, why 3, drop 4, accept 5, reject 6, passed 7, yes 8,
# no 9, unsure 10, since 11. Here are those that there are where nothing is open, where something was said, where
# something was asked, and where why something is open.
MOVES_FOR = ((1, 2, 3, 4), (3, 5, 6, 7), (8, 9, 10), (4, 11))


def say(record, given):
    if record.is_bound(record.mover, given):
        return SO_ALREADY
    return record.commit_and_finish(given, SAID, given)


def ask(record, given):
    return record.finish(ASKED, given)


def why(record, given):
    if record.matter == SAID and given != record.topic:
        return NOT_OPEN
    # What was said need not be in the store: who was bound to it already kept the same store.
    if given not in record.other_store():
        return NOT_IN_STORE
    return record.finish(WHY_SO, given)


def drop(record, given):
    if record.matter == WHY_SO and given != record.topic:
        return NOT_OPEN
    if given not in record.own_store():
        return NOT_IN_STORE
    record.own_store().remove(given)
    return record.finish(NOTHING, 0)


def since(record, given):
    if given == record.topic or not follows(record.topic, given):
        return NO_REASON
    return record.commit_and_finish(given, SAID, given)


def accept(record):
    return record.commit_and_finish(record.topic, NOTHING, 0)


def passed(record):
    return record.finish(NOTHING, 0)


def affirm(record):
    return record.commit_and_finish(record.topic, SAID, record.topic)


def deny(record):
    """Reject what was said, or say no to what was asked: both do the same."""
    contrary = opposite(record.letters, record.topic)
    return record.commit_and_finish(contrary, SAID, contrary)


def unsure(record):
    if record.is_bound(record.mover, record.topic) or record.is_barred(record.mover, record.topic):
        return NOT_UNSURE
    return record.finish(NOTHING, 0)


# The moves that are given a proposition, and those that take up what is open.
MOVES_GIVEN = {1: say, 2: ask, 3: why, 4: drop, 11: since}
MOVES_BARE = {5: accept, 6: deny, 7: passed, 8: affirm, 9: deny, 10: unsure}


def refusal_of_any(record, move):
    """The refusal that is due ahead of all that a move looks at by itself, or 0."""
    if record.moves_made >= MOST_MOVES:
        return TIME_IS_UP
    if move not in MOVES_FOR[record.matter]:
        return NOT_OPEN
    return 0


def make_bare_move(record, move):
    refusal = refusal_of_any(record, move)
    if refusal < 0:
        return refusal
    return MOVES_BARE[move](record)


def make_given_move(record, move, given):
    refusal = refusal_of_any(record, move)
    if refusal < 0:
        return refusal
    if not is_proposition(record.letters, given):
        return NOT_RIGHT
    return MOVES_GIVEN[move](record, given)
