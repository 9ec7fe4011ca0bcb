"""Bases of clubs, writings by lists of walks, and what is free."""

from walkclubs.checks import anew, check_letters, check_walk, check_walks, is_walk_of
from walkclubs.errors import InvalidWriting, NotWithin
from walkclubs.folding import Fold, petals_of
from walkclubs.walks import lead_and_core, straightened, turned_back, walk_order
from walkclubs.webs import checked_table, first_reached, first_ways, folded, size_of_basis, ways_of


class WrittenRooms:
    """Rooms of petals that are joined one by one, each with a writing of what leads to the room it was joined to.

    Each way has a writing, so that going around a ring writes its walk. Two rooms that are joined were reached by
    one letter from one room: so the writing between them makes the walk of no steps, and tells how it does.
    """

    def __init__(self, count, ways, writings):
        self.ways = ways
        self.writings = writings
        self.toward = list(range(count))
        self.marks = [() for _ in range(count)]

    def lie(self, room):
        """The tuple (room that stands for a room, writing that leads to it)."""
        writing = ()
        while self.toward[room] != room:
            writing += self.marks[room]
            room = self.toward[room]
        return room, straightened(writing)

    def way(self, number):
        """The tuple (first room, writing, last room) of a way, its rooms as they are joined."""
        first, first_mark = self.lie(self.ways[number][0])
        last, last_mark = self.lie(self.ways[number][2])
        return first, straightened(turned_back(first_mark) + self.writings[number] + last_mark), last

    def join_ways(self, one, other):
        """Joins the two unlike rooms at the far ends of two ways that have a room in common."""
        first, writing, last = self.way(one)
        other_first, other_writing, other_last = self.way(other)
        if first != other_first:
            last, writing = first, turned_back(writing)
            other_last, other_writing = other_first, turned_back(other_writing)
        mark = straightened(turned_back(writing) + other_writing)
        if last > other_last:
            self.toward[last], self.marks[last] = other_last, mark
        else:
            self.toward[other_last], self.marks[other_last] = last, turned_back(mark)


def written_ways(words):
    """The list of (first room, letter, writing by the words) of all ways of the petals of words, joined."""
    count, ways = petals_of(words)
    writings = []
    for number, word in enumerate(words, start=1):
        # The first way of each ring stands for the whole of its word.
        writings.append((number,) if word[0] > 0 else (-number,))
        writings.extend([() for _ in word[1:]])
    lying = WrittenRooms(count, ways, writings)
    for one, other in Fold(count, ways).joinings:
        lying.join_ways(one, other)
    told = []
    for number, way in enumerate(ways):
        first, writing, _ = lying.way(number)
        told.append((first, way[1], writing))
    return told


def tree_ways(letters, table):
    """The ascending list of the ways that the first ways of all rooms go."""
    reached = first_reached(letters, table)
    ways = []
    for room in range(1, len(table)):
        before, step = reached[room]
        ways.append((before, step, room) if step > 0 else (room, -step, before))
    return sorted(ways)


def other_ways(web, table):
    """The ascending list of the ways that no first way goes: each stands for a walk of the basis."""
    barred = {way: True for way in tree_ways(web[0], table)}
    return [way for way in ways_of(web) if way not in barred]


def basis_walks(web, table):
    """The walks of the basis, one for each way that no first way goes."""
    firsts = first_ways(web[0], table)
    return [firsts[room] + (letter,) + turned_back(firsts[after]) for room, letter, after in other_ways(web, table)]


def written_all(web, table, walks):
    """For each straight walk its straight writing by the basis; None for one that does not belong."""
    numbers = {}
    for number, (room, letter, after) in enumerate(other_ways(web, table), start=1):
        numbers[(room, letter)] = number
        numbers[(after, -letter)] = -number
    return [written_along(table, numbers, walk) for walk in walks]


def written_along(table, numbers, walk):
    """The numbers of the steps that a straight walk goes from home to home; None if it does not."""
    room, writing = 0, []
    for step in walk:
        if step not in table[room]:
            return None
        if (room, step) in numbers:
            writing.append(numbers[(room, step)])
        room = table[room][step]
    return tuple(writing) if room == 0 else None


def made(walks, writing):
    """The straight walk that a writing by a list of walks makes."""
    steps = []
    for number in writing:
        steps.extend(walks[number - 1] if number > 0 else turned_back(walks[-number - 1]))
    return straightened(steps)


def check_writing(walks, writing):
    """Refuses what is no writing by so many walks."""
    if not is_walk_of(len(walks), writing):
        raise InvalidWriting(anew(writing))


def makes_basis(web, walks):
    """Whether a list of walks is free and makes the club of a web."""
    return len(walks) == size_of_basis(web) and folded(web[0], walks) == web


def tree(web):
    """The ascending list of the ways that the first ways of all rooms go."""
    table = checked_table(web)
    return tree_ways(web[0], table)


def basis(web):
    """The list of the walks, one for each other way, that go there and back by first ways."""
    return basis_walks(web, checked_table(web))


def written(web, walk):
    """The one straight writing by the basis that makes a walk; None if it does not belong."""
    table = checked_table(web)
    check_walk(web[0], walk)
    return written_all(web, table, [straightened(walk)])[0]


def put(letters, walks, writing):
    """The walk that a writing by a list of walks makes."""
    check_letters(letters)
    check_walks(letters, walks)
    check_writing(walks, writing)
    return made(walks, writing)


def free(letters, walks):
    """Whether no straight writing by a list of walks but `()` makes `()`."""
    check_letters(letters)
    check_walks(letters, walks)
    # As many walks as a basis has, that make the club, are a basis of it themselves.
    return size_of_basis(folded(letters, walks)) == len(walks)


def relation(letters, walks):
    """A straight writing by a list of walks but `()` that makes `()`; None if there is none."""
    check_letters(letters)
    check_walks(letters, walks)
    web = folded(letters, walks)
    if size_of_basis(web) == len(walks):
        return None
    words = written_all(web, checked_table(web), [straightened(walk) for walk in walks])
    if () in words:
        return (words.index(()) + 1,)
    # Two ways with one letter that lead from room to room alike, but are written in two ways.
    found, firsts = [], {}
    for room, letter, writing in written_ways(words):
        other = firsts.setdefault((room, letter), writing)
        if writing != other:
            found.append(lead_and_core(straightened(other + turned_back(writing)))[1])
    return min(found, key=walk_order)


def is_basis(web, walks):
    """Whether a list of walks is free and makes the club of a web."""
    checked_table(web)
    check_walks(web[0], walks)
    return makes_basis(web, walks)


def rewriting(web, walks):
    """The list of the straight writings by such a list of walks that make the walks of `basis(web)`."""
    table = checked_table(web)
    check_walks(web[0], walks)
    if not makes_basis(web, walks):
        raise NotWithin(anew(walks))
    words = written_all(web, table, [straightened(walk) for walk in walks])
    # The words make all of their letters, so their petals are joined to one room.
    writings = {letter: writing for _, letter, writing in written_ways(words)}
    return [writings[letter] for letter in range(1, len(walks) + 1)]
