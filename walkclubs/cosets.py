"""What is beside a club, coset by coset: the least walk of each, how many there are, and which is the n-th one."""

from walkclubs.bases import basis_walks, written_all
from walkclubs.checks import anew, check_least, check_walk
from walkclubs.errors import NotWithin
from walkclubs.folding import Fold, petals_of
from walkclubs.walks import step_place, steps_of, straightened
from walkclubs.webs import check_alike, checked_table, first_reached, first_ways, gone, size_of_basis

OUTSIDE = -1
HOME = (0, 0)


def steps_on(letters, table, reached, room):
    """The list of (step, place) by which least walks go on from a room, in their order."""
    on = []
    for step in steps_of(letters):
        after = table[room].get(step)
        if after is None:
            on.append((step, (OUTSIDE, step)))
        elif reached[after] == (room, step):
            on.append((step, (after, 0)))
    return on


class Outlook:
    """The least walks of all cosets of a web, as they go on from one another step by step.

    They are the first ways of the rooms, and what goes on straight behind these through open doors. A place is where
    one leads: (room, 0), or behind an open door (OUTSIDE, its last step).
    """

    def __init__(self, letters, table):
        self.steps = steps_of(letters)
        reached = first_reached(letters, table)
        self.doors = [steps_on(letters, table, reached, room) for room in range(len(table))]
        # How many least walks go on by just 0, 1, .. steps: from each room, and from each place outside.
        self.inside = [[1 for _ in table]]
        self.outside = [1]

    def on_from(self, place):
        """The list of (step, place) by which least walks go on from a place, in their order."""
        room, last = place
        if room == OUTSIDE:
            return [(step, (OUTSIDE, step)) for step in self.steps if step != -last]
        return self.doors[room]

    def reach(self, length):
        """Makes sure that the numbers of the walks that go on by up to so many steps are known."""
        while len(self.inside) <= length:
            left = len(self.inside) - 1
            self.inside.append([sum([self.many(place, left) for _, place in doors]) for doors in self.doors])
            self.outside.append(self.outside[left] * (len(self.steps) - 1))

    def many(self, place, left):
        """How many least walks go on from a place by just so many steps."""
        return self.outside[left] if place[0] == OUTSIDE else self.inside[left][place[0]]

    def nth(self, number):
        """The n-th least walk; there must be so many."""
        length = 0
        while number >= self.many(HOME, length):
            number -= self.many(HOME, length)
            length += 1
            self.reach(length)
        walk, place = [], HOME
        for left in range(length - 1, -1, -1):
            on, at = self.on_from(place), 0
            while number >= self.many(on[at][1], left):
                number -= self.many(on[at][1], left)
                at += 1
            walk.append(on[at][0])
            place = on[at][1]
        return tuple(walk)

    def number(self, walk):
        """How many least walks there are ahead of one of them."""
        self.reach(len(walk))
        number = sum([self.many(HOME, length) for length in range(len(walk))])
        place = HOME
        for at, step in enumerate(walk):
            on = self.on_from(place)
            ahead = [after for other, after in on if step_place(other) < step_place(step)]
            number += sum([self.many(after, len(walk) - 1 - at) for after in ahead])
            place = on[len(ahead)][1]
        return number


def is_closed(letters, table):
    """Whether there is no open door."""
    return all([len(steps) == 2 * letters for steps in table])


def least_in_coset(letters, table, walk):
    """The least walk in the coset of a walk."""
    steps = straightened(walk)
    room, count = gone(table, 0, steps)
    return first_ways(letters, table)[room] + steps[count:]


def index(web):
    """The number of cosets; None if there are endlessly many."""
    table = checked_table(web)
    return len(table) if is_closed(web[0], table) else None


def open_door(web):
    """The first open door as a tuple (room, step); None if there is none."""
    table = checked_table(web)
    doors = [(room, step) for room, after in enumerate(table) for step in steps_of(web[0]) if step not in after]
    return doors[0] if doors else None


def coset_walk(web, walk):
    """The least walk in the coset of a walk."""
    table = checked_table(web)
    check_walk(web[0], walk)
    return least_in_coset(web[0], table, walk)


def same_coset(web, one, other):
    """Whether two walks are in one coset."""
    table = checked_table(web)
    check_walk(web[0], one)
    check_walk(web[0], other)
    return least_in_coset(web[0], table, one) == least_in_coset(web[0], table, other)


def cosets_of_length(web, length):
    """The number of cosets whose least walk has this length."""
    table = checked_table(web)
    check_least(length, 0)
    outlook = Outlook(web[0], table)
    outlook.reach(length)
    return outlook.many(HOME, length)


def nth_coset(web, number):
    """The n-th of the least walks of all cosets; None if there are not so many."""
    table = checked_table(web)
    check_least(number, 0)
    if is_closed(web[0], table) and number >= len(table):
        return None
    return Outlook(web[0], table).nth(number)


def coset_number(web, walk):
    """The number of the coset of a walk, by the least walks of all cosets."""
    table = checked_table(web)
    check_walk(web[0], walk)
    return Outlook(web[0], table).number(least_in_coset(web[0], table, walk))


def index_within(web, other):
    """In how many cosets of the other web's club the walks of the one's lie; None if in endlessly many."""
    table = checked_table(web)
    other_table = checked_table(other)
    check_alike(web, other)
    words = written_all(web, table, basis_walks(other, other_table))
    if None in words:
        raise NotWithin(anew(other))
    # Written by the basis of the one club, the other club has a web of its own with a letter for each of its walks.
    count, ways = petals_of(words)
    within = Fold(count, ways).table()
    return len(within) if is_closed(size_of_basis(web), list(within.values())) else None
