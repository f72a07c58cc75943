"""The record of a talk: both stores, whose turn it is, what is open, and how many moves were made."""

from twocommitted.propositions import MOST_LETTERS, excludes, follows, worlds_allowed
from twocommitted.refusals import CANNOT_BE, NOT_RIGHT, TOO_MANY

MOST_IN_STORE = 6

# What may be open for the one whose turn it is, by the numbers that the document gives it.
NOTHING = 0
SAID = 1
ASKED = 2
WHY_SO = 3


class Record:
    """A talk as it stands; it has no letters before a begin that answers 0."""

    def __init__(self):
        self.restart(0)

    def restart(self, letters):
        self.letters = letters
        self.stores = ([], [])
        self.mover = 0
        self.matter = NOTHING
        self.topic = 0
        self.moves_made = 0

    def begin(self, letters):
        if not 1 <= letters <= MOST_LETTERS:
            return NOT_RIGHT
        self.restart(letters)
        return 0

    def has_begun(self):
        return self.letters > 0

    def own_store(self):
        return self.stores[self.mover]

    def other_store(self):
        return self.stores[1 - self.mover]

    def worlds_of(self, person):
        """The worlds that a person allows, as a proposition."""
        return worlds_allowed(self.letters, self.stores[person])

    def is_bound(self, person, proposition):
        return follows(proposition, self.worlds_of(person))

    def is_barred(self, person, proposition):
        return excludes(proposition, self.worlds_of(person))

    def commit(self, proposition):
        """Commit the one whose turn it is: the refusal's number, or 0 if it is not refused."""
        if self.is_barred(self.mover, proposition):
            return CANNOT_BE
        if self.is_bound(self.mover, proposition):
            return 0
        if len(self.own_store()) >= MOST_IN_STORE:
            return TOO_MANY
        self.own_store().append(proposition)
        return 0

    def finish(self, matter, topic):
        """End a move that is not refused: what is open now is open for the other one."""
        size = len(self.own_store())
        self.matter = matter
        self.topic = topic
        self.mover = 1 - self.mover
        self.moves_made = self.moves_made + 1
        return size

    def commit_and_finish(self, proposition, matter, topic):
        refusal = self.commit(proposition)
        if refusal < 0:
            return refusal
        return self.finish(matter, topic)
