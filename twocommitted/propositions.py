"""Propositions: sets of worlds, each told as a number in which world w counts 2 to the power of w."""

MOST_LETTERS = 3

# By how many letters there are: the proposition that is so in every world, and so the greatest one.
ALWAYS_SO = (1, 3, 15, 255)


def is_proposition(letters, number):
    return 0 <= number <= ALWAYS_SO[letters]


def opposite(letters, proposition):
    return ALWAYS_SO[letters] - proposition


def follows(proposition, other):
    """Whether the proposition is so in each world in which the other is."""
    return proposition & other == other


def excludes(proposition, other):
    """Whether there is no world in which both are so."""
    return proposition & other == 0


def worlds_allowed(letters, store):
    """The worlds in which all of the store is so, as a proposition."""
    worlds = ALWAYS_SO[letters]
    for proposition in store:
        worlds = worlds & proposition
    return worlds
