"""Webs: the rooms by which a club tells of each walk whether it belongs."""

from walkclubs.checks import anew, check_letters, check_walk, check_walks, check_within, is_integer, is_letters
from walkclubs.errors import InvalidWeb, Unlike
from walkclubs.folding import Fold, petals_of
from walkclubs.walks import steps_of, straightened


def is_row(letters, count, value):
    """Whether any object has, for each letter, one of so many rooms or -1."""
    if not isinstance(value, tuple) or len(value) != letters:
        return False
    return all([is_integer(after) and -1 <= after < count for after in value])


def has_web_form(value):
    """Whether any object is a tuple of letters and rows, as a web is, wherever the letters lead."""
    if not isinstance(value, tuple) or len(value) != 2:
        return False
    letters, rows = value
    if not is_letters(letters) or not isinstance(rows, tuple):
        return False
    return len(rows) > 0 and all([is_row(letters, len(rows), row) for row in rows])


def step_table(rows):
    """For each room a dict of where each step leads; None if a letter leads from two rooms to one."""
    table = [{} for _ in rows]
    for room, row in enumerate(rows):
        for letter, after in enumerate(row, start=1):
            if after >= 0:
                if -letter in table[after]:
                    return None
                table[room][letter] = after
                table[after][-letter] = room
    return table


def first_reached(letters, table, home=0):
    """A dict of the rooms by the order of their first ways: each has the room and the step ahead of it."""
    reached = {home: None}
    found = [home]
    steps = steps_of(letters)
    place = 0
    while place < len(found):
        room = found[place]
        for step in steps:
            after = table[room].get(step)
            if after is not None and after not in reached:
                reached[after] = (room, step)
                found.append(after)
        place += 1
    return reached


def first_ways(letters, table):
    """The first ways of all rooms of a web, by the rooms."""
    ways = [()]
    reached = first_reached(letters, table)
    for room in range(1, len(table)):
        before, step = reached[room]
        ways.append(ways[before] + (step,))
    return ways


def way_to(reached, room):
    """The first way of a room, of those that are reached."""
    steps = []
    while reached[room] is not None:
        room, step = reached[room]
        steps.append(step)
    return tuple(steps[::-1])


def numbered(letters, table, home=0):
    """The web of a table of steps, its rooms numbered in the order of their first ways from home."""
    number = {room: place for place, room in enumerate(first_reached(letters, table, home))}
    rows = []
    for room in number:
        steps = table[room]
        rows.append(tuple([number[steps[letter]] if letter in steps else -1 for letter in range(1, letters + 1)]))
    return letters, tuple(rows)


def right_table(value):
    """The table of steps of a web; None of any other object."""
    if not has_web_form(value):
        return None
    letters, rows = value
    table = step_table(rows)
    if table is None or any([len(steps) < 2 for steps in table[1:]]):
        return None
    return table if list(first_reached(letters, table)) == list(range(len(rows))) else None


def checked_table(web):
    """The table of steps of a web; what is no web is refused."""
    table = right_table(web)
    if table is None:
        raise InvalidWeb(anew(web))
    return table


def check_alike(web, other):
    """Refuses a second web that has other letters than the first one."""
    if other[0] != web[0]:
        raise Unlike(other[0])


def gone(table, room, walk):
    """The room that is reached from a room by a straight walk, as far as it can be gone, and how far it can."""
    for count, step in enumerate(walk):
        if step not in table[room]:
            return room, count
        room = table[room][step]
    return room, len(walk)


def end_of(table, room, walk):
    """The room to which a straight walk leads from a room; None if to none."""
    reached, count = gone(table, room, walk)
    return reached if count == len(walk) else None


def lengthened(table, walks):
    """The tuple (table, ends): that of a web and of new rooms where walks leave it, and where each walk ends."""
    wider = [dict(steps) for steps in table]
    ends = []
    for walk in walks:
        room = 0
        for step in straightened(walk):
            if step not in wider[room]:
                wider[room][step] = len(wider)
                wider.append({-step: room})
            room = wider[room][step]
        ends.append(room)
    return wider, ends


def trimmed(table, home=None):
    """A dict as of a table, without the rooms but home from which less than two steps lead, left out again and again.

    If no home is told, none is spared.
    """
    kept = {room: dict(steps) for room, steps in table.items()}
    waiting = [room for room in kept if len(kept[room]) < 2]
    while waiting:
        room = waiting.pop()
        if room != home and room in kept:
            for step, after in list(kept[room].items()):
                del kept[after][-step]
                if len(kept[after]) < 2:
                    waiting.append(after)
            del kept[room]
    return kept


def is_laid_into(web, table, wider):
    """Whether all walks that belong to a web, with its table, belong to the web of another table."""
    # They do exactly if its rooms can be laid onto rooms of the other one, home onto home, so that each way lies on
    # a way.
    laid = [end_of(wider, 0, walk) for walk in first_ways(web[0], table)]
    if None in laid:
        return False
    return all([wider[laid[room]].get(letter) == laid[after] for room, letter, after in ways_of(web)])


def ways_of(web):
    """The ascending list of the ways of a web."""
    return [
        (room, letter, after)
        for room, row in enumerate(web[1]) for letter, after in enumerate(row, start=1) if after >= 0
    ]


def folded(letters, walks):
    """The web of the club of a list of walks."""
    count, ways = petals_of(walks)
    return numbered(letters, Fold(count, ways).table())


def size_of_basis(web):
    """The number of the ways of a web less that of its rooms, and 1."""
    return len(ways_of(web)) - len(web[1]) + 1


def is_web(value):
    """Whether any object is a web."""
    return right_table(value) is not None


def web_of(letters, walks):
    """The web of the club of a list of walks."""
    check_letters(letters)
    check_walks(letters, walks)
    return folded(letters, walks)


def whole(letters):
    """The web of the club of all walks."""
    check_letters(letters)
    return letters, ((0,) * letters,)


def nothing(letters):
    """The web of the club of `()` alone."""
    check_letters(letters)
    return letters, ((-1,) * letters,)


def rooms(web):
    """The number of rooms of a web."""
    checked_table(web)
    return len(web[1])


def rank(web):
    """The number of ways of a web less that of its rooms, plus 1: how many walks each basis has."""
    checked_table(web)
    return size_of_basis(web)


def belongs(web, walk):
    """Whether a walk belongs to a web."""
    table = checked_table(web)
    check_walk(web[0], walk)
    return end_of(table, 0, straightened(walk)) == 0


def room_after(web, room, walk):
    """The room to which a walk, straightened, leads from a room; None if to none."""
    table = checked_table(web)
    check_within(room, 0, len(table) - 1)
    check_walk(web[0], walk)
    return end_of(table, room, straightened(walk))


def steps_gone(web, walk):
    """How many steps of a walk, straightened, can be gone from home."""
    table = checked_table(web)
    check_walk(web[0], walk)
    return gone(table, 0, straightened(walk))[1]


def first_way(web, room):
    """The least walk that leads from home to a room."""
    table = checked_table(web)
    check_within(room, 0, len(table) - 1)
    return first_ways(web[0], table)[room]


def least_loop(web, room):
    """The least straight walk but `()` that leads from a room to itself; None if there is none."""
    table = checked_table(web)
    check_within(room, 0, len(table) - 1)
    # What can be gone on with depends on the room and the last step alone (0: none yet).
    walks = {(room, 0): ()}
    found = [(room, 0)]
    place = 0
    while place < len(found):
        at, last = found[place]
        for step in steps_of(web[0]):
            if step != -last and step in table[at]:
                walk = walks[(at, last)] + (step,)
                if table[at][step] == room:
                    return walk
                if (table[at][step], step) not in walks:
                    walks[(table[at][step], step)] = walk
                    found.append((table[at][step], step))
        place += 1
    return None


def contains(web, other):
    """Whether all walks that belong to the other web belong to the one."""
    table = checked_table(web)
    other_table = checked_table(other)
    check_alike(web, other)
    return is_laid_into(other, other_table, table)
