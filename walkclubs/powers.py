"""Powers: how many times make a walk belong, and which exponents do between two walks."""

from itertools import permutations

from walkclubs.checks import check_least, check_walk
from walkclubs.walks import lead_and_core, straightened, turned_back
from walkclubs.webs import checked_table, end_of, first_ways, gone


def place_behind(table, place, walk):
    """The coset behind one and a walk, each as the tuple (room, steps that go on from there by an open door)."""
    room, outside = place
    steps = straightened(outside + walk)
    room, count = gone(table, room, steps)
    return room, steps[count:]


def times_between(table, first, last, core):
    """The tuple (times, circle): how many times, from 0 on, a core leads from a place to another one, or None.

    The circle is how many times lead from the first place to itself, 0 if none do.
    """
    # Steps outside that are left behind by a core are left behind for good, as soon as they are more than at first.
    most = max(len(first[1]), len(last[1]))
    times, place, found = 0, first, None
    while len(place[1]) <= most:
        if place == last:
            found = times
        place = place_behind(table, place, core)
        times += 1
        if place == first:
            return found, times
    return found, 0


def times_home(table, room, walk):
    """The least number of times, from 1 on, that a walk leads from a room to itself; None if there is none."""
    times, after = 1, end_of(table, room, walk)
    while after is not None and after != room:
        times, after = times + 1, end_of(table, after, walk)
    return None if after is None else times


def ways_together(table, rooms):
    """For each tuple of rooms to which some walk leads from these, one from each, a shortest such walk."""
    ways = {rooms: ()}
    found = [rooms]
    place = 0
    while place < len(found):
        ahead = found[place]
        for step in table[ahead[0]]:
            after = tuple([table[room].get(step) for room in ahead])
            if None not in after and after not in ways:
                ways[after] = ways[ahead] + (step,)
                found.append(after)
        place += 1
    return ways


def walk_in_circle(table, many):
    """A tuple (room, walk): the walk leads from the room to so many rooms, one behind the other, and back to it."""
    # A walk that leads to some rooms leads on from where these are turned round to where those are: of all rooms
    # that are met together one tuple tells for all.
    met = {}
    for rooms in permutations(range(len(table)), many):
        if rooms not in met:
            ways = ways_together(table, rooms)
            after = rooms[1:] + rooms[:1]
            if after in ways:
                return rooms[0], ways[after]
            for other in ways:
                met[other] = True
    return None


def most_in_circle(table):
    """The greatest number of rooms to which some walk leads one behind the other, from the last one to the first."""
    many = len(table)
    while walk_in_circle(table, many) is None:
        many -= 1
    return many


def least_power(web, walk):
    """The least number of times, from 1 on, that make a walk belong; None if there is none."""
    table = checked_table(web)
    check_walk(web[0], walk)
    lead, core = lead_and_core(straightened(walk))
    room = end_of(table, 0, lead)
    return None if room is None else times_home(table, room, core)


def exponents(web, one, walk, other):
    """The tuple (a, number) of the exponents of a walk between two walks that belong; None if there are none."""
    table = checked_table(web)
    check_walk(web[0], one)
    check_walk(web[0], walk)
    check_walk(web[0], other)
    lead, core = lead_and_core(straightened(walk))
    # The one walk and then the powers must lead to the coset of the other walk, turned back.
    first = place_behind(table, (0, ()), one + lead)
    last = place_behind(table, (0, ()), turned_back(other) + lead)
    times, circle = times_between(table, first, last, core)
    if times is not None or circle > 0:
        return None if times is None else (times, circle)
    times = times_between(table, first, last, turned_back(core))[0]
    return None if times is None else (-times, 0)


def power_walk(web, times):
    """A walk that belongs if it is done so many times, and not ahead of that; None if there is none."""
    table = checked_table(web)
    check_least(times, 1)
    if times > len(table):
        return None
    found = walk_in_circle(table, times)
    if found is None:
        return None
    lead = first_ways(web[0], table)[found[0]]
    return straightened(lead + found[1] + turned_back(lead))


def greatest_power(web):
    """The greatest least number of times that makes any walk belong."""
    return most_in_circle(checked_table(web))


def is_rooted(web):
    """Whether each walk of which a power, from 1 on, belongs, belongs itself."""
    return most_in_circle(checked_table(web)) == 1
