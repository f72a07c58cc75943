"""Propositions: sets of worlds, each told as a number in which world w counts 2 to the power of w."""

MOST_LETTERS = 3

# By how many letters there are: the proposition that is so in every world, and so the greatest one.
ALWAYS_SO = (1, 3, 15, 255)


def is_proposition(letters, number):
    return 0 <= number <= ALWAYS_SO[letters]


def opposite(letters, proposition):
    return ALWAYS_SO[letters] - proposition


def follows(proposition, other):
    """Whether the proposition is so in each world in which the other is."""
    return proposition & other == other


def excludes(proposition, other):
    """Whether there is no world in which both are so."""
    return proposition & other == 0


def worlds_allowed(letters, store):
    """The worlds in which all of the store is so, as a proposition."""
    worlds = ALWAYS_SO[letters]
    for proposition in store:
        worlds = worlds & proposition
    return worlds


def how_many_worlds(proposition):
    found = 0
    rest = proposition
    while rest > 0:
        found = found + rest % 2
        rest = rest // 2
    return found


def sets_of_places(size):
    """All sets of the places below size, in the order of their numbers: place i counts 2 to the power of i."""
    sets = [[]]
    for place in range(size):
        sets = sets + [places + [place] for places in sets]
    return sets


def places_bind(letters, store, places, proposition):
    """Whether those at these places of the store bind to the proposition by themselves."""
    return follows(proposition, worlds_allowed(letters, [store[place] for place in places]))


def fewest_places_that_bind(letters, store, proposition):
    """The places of the fewest that bind to it; the store as a whole must do so."""
    fewest = list(range(len(store)))
    # The sets come by rising numbers, so that of those that have as few the first one stays.
    for places in sets_of_places(len(store)):
        if len(places) < len(fewest) and places_bind(letters, store, places, proposition):
            fewest = places
    return fewest
