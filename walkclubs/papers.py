"""Papers: finite books of turns which show that walks do not belong to a club."""

from walkclubs.bases import basis_walks
from walkclubs.checks import anew, is_walk_of
from walkclubs.errors import InvalidWalks
from walkclubs.turns import is_book, place_led, turns_by_steps
from walkclubs.webs import checked_table, lengthened

MOST_WALKS = 4


def check_paper_walks(letters, walks):
    """Refuses what is no tuple of walks for a paper."""
    if not isinstance(walks, tuple) or not 1 <= len(walks) <= MOST_WALKS:
        raise InvalidWalks(anew(walks))
    if not all([is_walk_of(letters, walk) for walk in walks]):
        raise InvalidWalks(anew(walks))


def check_paper(web, walks):
    """The table of steps of a web; a faulty web and faulty walks are refused."""
    table = checked_table(web)
    check_paper_walks(web[0], walks)
    return table


def whole_turn(count, pairs):
    """A turn of so many places that leads as a dict tells, and all other places to those that are left."""
    led_to = {after: True for after in list(pairs.values())}
    left = [place for place in range(count) if place not in led_to]
    # Both are as many: of the places that the dict does not lead, and of those to which it does not.
    turn = []
    for place in range(count):
        turn.append(pairs[place] if place in pairs else left.pop())
    return tuple(turn)


def book_of_pairs(letters, count, places, table):
    """A book of so many places that leads the places of all rooms as the steps of a table do."""
    turns = []
    for letter in range(1, letters + 1):
        pairs = {places[room]: places[steps[letter]] for room, steps in enumerate(table) if letter in steps}
        turns.append(whole_turn(count, pairs))
    return letters, tuple(turns)


def lie_well(table, ends, places):
    """Whether the first rooms may lie at these places: no step leads from a place to two, and no end lies at home."""
    doors = {}
    for room in range(len(places)):
        for step, after in table[room].items():
            if after < len(places) and doors.setdefault((places[room], step), places[after]) != places[after]:
                return False
    return all([places[end] != 0 for end in ends if end < len(places)])


def laid(table, ends, count, places):
    """The list of places, so many at most, at which all rooms may lie, told ones first; None if there is none."""
    if len(places) == len(table):
        return places
    for place in range(min(count, max(places) + 2)):
        longer = places + [place]
        found = laid(table, ends, count, longer) if lie_well(table, ends, longer) else None
        if found is not None:
            return found
    return None


def closest(table, ends):
    """The list of the places, as few as can be, at which rooms lie apart from ends that must not lie at home."""
    # A paper leads its place 0 to a place for each room, as the steps go; and it needs no other places.
    count, places = 1, None
    while places is None:
        places = laid(table, ends, count, [0])
        count += 1
    return places


def paper(web, walks):
    """A paper for a web and walks; None if one of the walks belongs."""
    table = check_paper(web, walks)
    wider, ends = lengthened(table, walks)
    if 0 in ends:
        return None
    return book_of_pairs(web[0], len(wider), list(range(len(wider))), wider)


def paper_holds(web, walks, value):
    """Whether any object is a paper for a web and walks."""
    table = check_paper(web, walks)
    if not is_book(value) or value[0] != web[0]:
        return False
    turns = turns_by_steps(value)
    kept = all([place_led(turns, 0, walk) == 0 for walk in basis_walks(web, table)])
    return kept and all([place_led(turns, 0, walk) != 0 for walk in walks])


def paper_places(web, walks):
    """The least number of places that a paper has; None if one of the walks belongs."""
    wider, ends = lengthened(check_paper(web, walks), walks)
    return None if 0 in ends else max(closest(wider, ends)) + 1


def least_paper(web, walks):
    """A paper with the least number of places; None if one of the walks belongs."""
    wider, ends = lengthened(check_paper(web, walks), walks)
    if 0 in ends:
        return None
    places = closest(wider, ends)
    return book_of_pairs(web[0], max(places) + 1, places, wider)
