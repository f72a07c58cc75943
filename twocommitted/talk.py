"""The program's one function for others: answers(calls)."""

from twocommitted.moves import MOVES_BARE, make_bare_move, make_given_move
from twocommitted.record import Record
from twocommitted.refusals import BEFORE_BEGIN

BEGIN = 0


def call_length(number):
    """How many numbers a call has in the list, its own number among them."""
    if number in MOVES_BARE:
        return 1
    return 2


def answer(record, call):
    """The numbers that one call answers."""
    number = call[0]
    if number == BEGIN:
        return [record.begin(call[1])]
    if not record.has_begun():
        return [BEFORE_BEGIN]
    if number in MOVES_BARE:
        return [make_bare_move(record, number)]
    return [make_given_move(record, number, call[1])]


def answers(calls):
    """For each call, in order: how many numbers are answered, then these."""
    record = Record()
    given_back = []
    place = 0
    while place < len(calls):
        behind = place + call_length(calls[place])
        numbers = answer(record, calls[place:behind])
        given_back.append(len(numbers))
        given_back.extend(numbers)
        place = behind
    return given_back
