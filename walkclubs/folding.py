"""Folding: rings of ways, one for each walk, and the joinings of rooms that make a web of them."""

from walkclubs.checks import check_letters, check_walks, is_integer
from walkclubs.walks import straightened


class Joined:
    """Rooms of which some are one; the least of those that are one stands for all."""

    def __init__(self, count):
        self.toward = list(range(count))

    def least(self, room):
        """The least of the rooms that are one with a room."""
        while self.toward[room] != room:
            # Each look shortens the way for the next one.
            self.toward[room] = self.toward[self.toward[room]]
            room = self.toward[room]
        return room

    def unite(self, one, other):
        """Makes two rooms one."""
        one, other = self.least(one), self.least(other)
        self.toward[max(one, other)] = min(one, other)


class Fold:
    """Ways whose rooms are joined until no letter leads from a room to two rooms, or from two to one."""

    def __init__(self, count, ways):
        self.ways = ways
        self.joined = Joined(count)
        self.doors = [{} for _ in range(count)]
        self.joinings = []
        for number, (first, letter, last) in enumerate(ways):
            self.add_door(first, letter, number)
            self.add_door(last, -letter, number)

    def add_door(self, room, step, number):
        """Lets a step lead from a room along the way of this number."""
        doors = self.doors[self.joined.least(room)]
        if step in doors:
            self.join_ends(step, doors[step], number)
        else:
            doors[step] = number

    def far_end(self, step, number):
        """The room to which a step leads along the way of this number."""
        first, _, last = self.ways[number]
        return self.joined.least(last if step > 0 else first)

    def join_ends(self, step, one, other):
        """Joins the rooms to which a step leads along two ways, and all that must be joined then."""
        waiting = [(step, one, other)]
        while waiting:
            step, one, other = waiting.pop()
            kept, lost = sorted([self.far_end(step, one), self.far_end(step, other)])
            if kept != lost:
                self.joinings.append((min(one, other), max(one, other)))
                self.joined.unite(kept, lost)
                waiting.extend(self.move_doors(lost, kept))

    def move_doors(self, lost, kept):
        """Moves the doors of a room to another one; the list of (step, way, way) that meet there."""
        doors = self.doors[kept]
        met = []
        for step, number in list(self.doors[lost].items()):
            if step in doors:
                met.append((step, doors[step], number))
            else:
                doors[step] = number
        return met

    def table(self):
        """A dict that has, for each room that stands for itself, a dict of where each step leads."""
        return {
            room: {step: self.far_end(step, number) for step, number in doors.items()}
            for room, doors in enumerate(self.doors) if self.joined.least(room) == room
        }


def ways_along(steps, first, last, count):
    """The ways that some steps go from a room to a room, by new rooms between them that are numbered from count on."""
    passed = [first] + list(range(count, count + len(steps) - 1)) + [last]
    return [
        (room, step, ahead) if step > 0 else (ahead, -step, room)
        for step, room, ahead in zip(steps, passed, passed[1:])
    ]


def petals_of(walks):
    """The petals of walks: the number of rooms, and the list of all ways."""
    count, ways = 1, []
    for walk in walks:
        steps = straightened(walk)
        ways.extend(ways_along(steps, 0, 0, count))
        count += max(0, len(steps) - 1)
    return count, ways


def is_pair(count, value):
    """Whether any object is a tuple (i, k) of numbers below count, i less than k."""
    if not isinstance(value, tuple) or len(value) != 2:
        return False
    one, other = value
    return is_integer(one) and is_integer(other) and 0 <= one < other < count


def ends_joined(joined, one, other):
    """The two unlike rooms that two ways join; None if they join none."""
    firsts = (joined.least(one[0]), joined.least(other[0]))
    lasts = (joined.least(one[2]), joined.least(other[2]))
    if one[1] != other[1]:
        return None
    if firsts[0] == firsts[1] and lasts[0] != lasts[1]:
        return lasts
    if lasts[0] == lasts[1] and firsts[0] != firsts[1]:
        return firsts
    return None


def is_joined(joined, ways):
    """Whether no letter leads from a room to two rooms, or from two to one."""
    ends = {}
    for first, letter, last in ways:
        first, last = joined.least(first), joined.least(last)
        if ends.setdefault((first, letter), last) != last or ends.setdefault((last, -letter), first) != first:
            return False
    return True


def petals(letters, walks):
    """The petals of a list of walks: the tuple (number of rooms, list of all ways)."""
    check_letters(letters)
    check_walks(letters, walks)
    return petals_of(walks)


def joinings(letters, walks):
    """A list of joinings of the petals of a list of walks, behind which no two ways are to be joined."""
    check_letters(letters)
    check_walks(letters, walks)
    count, ways = petals_of(walks)
    return Fold(count, ways).joinings


def joinings_hold(letters, walks, value):
    """Whether any object is a list of joinings, behind which no two ways are to be joined."""
    check_letters(letters)
    check_walks(letters, walks)
    if not isinstance(value, list):
        return False
    count, ways = petals_of(walks)
    joined = Joined(count)
    for pair in value:
        ends = ends_joined(joined, ways[pair[0]], ways[pair[1]]) if is_pair(len(ways), pair) else None
        if ends is None:
            return False
        joined.unite(ends[0], ends[1])
    return is_joined(joined, ways)


def joined_rooms(letters, walks):
    """The ascending list of the ascending lists of the rooms of the petals that are one behind all joinings."""
    check_letters(letters)
    check_walks(letters, walks)
    count, ways = petals_of(walks)
    joined = Fold(count, ways).joined
    alike = {}
    for room in range(count):
        alike.setdefault(joined.least(room), []).append(room)
    return list(alike.values())
