"""The program's one function for others: answers(calls)."""

from twocommitted.moves import MOVES_BARE, MOVES_GIVEN, make_bare_move, make_given_move
from twocommitted.record import Record
from twocommitted.refusals import BEFORE_BEGIN
from twocommitted.tellings import tell

BEGIN = 0

# How many whole numbers a call has behind its own, for the calls from 0 to 23.
NUMBERS_GIVEN = (1, 1, 1, 1, 1, 0, 0, 0, 0, 0, 0, 1, 0, 0, 1, 2, 2, 2, 0, 0, 0, 0, 1, 0)


def answer(record, number, given):
    """The numbers that one call answers."""
    if number == BEGIN:
        return [record.begin(given[0])]
    if not record.has_begun():
        return [BEFORE_BEGIN]
    if number in MOVES_BARE:
        return [make_bare_move(record, number)]
    if number in MOVES_GIVEN:
        return [make_given_move(record, number, given[0])]
    return tell(record, number, given)


def answers(calls):
    """For each call, in order: how many numbers are answered, then these."""
    record = Record()
    given_back = []
    place = 0
    while place < len(calls):
        number = calls[place]
        behind = place + 1 + NUMBERS_GIVEN[number]
        numbers = answer(record, number, calls[place + 1:behind])
        given_back.append(len(numbers))
        given_back.extend(numbers)
        place = behind
    return given_back
