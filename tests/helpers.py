"""What the tests share: faulty arguments, how refusals are looked at, and slow ways to the same answers."""

import copy
import itertools
import random

from walkclubs.bases import basis
from walkclubs.errors import (
    InvalidBook, InvalidLetters, InvalidNumber, InvalidRows, InvalidSending, InvalidShort, InvalidSums, InvalidWalk,
    InvalidWalks, InvalidWeb, InvalidWriting,
)
from walkclubs.webs import nothing, web_of, whole

HALF = (2, ((1, 0), (0, -1)))
EVEN = (2, ((1, 0), (0, 1)))
NOTHING = (2, ((-1, -1),))
WHOLE = (2, ((0, 0),))

# Objects of every kind that is no tuple of integers.
ODD_OBJECTS = [
    None, True, False, 0, 1, -3, 10 ** 60, "", "1 2", b"", b"1", [], [1], [1, 2], [[1], [1]], {}, {1: [2]}, {1, 2},
    (None,), ("1",), (b"1",), ((1,),), ([1],), (1, []), (1, [2, [3]]), ([1], [1]), ([], ([],)), ({1: [2]},),
    (True,), (False,), (1, True), (1, 1, False, 1), (0,), (1, 0, -1), (5,), (-5,), (1, 2, 10 ** 30),
]


def nested(depth):
    """A list in a tuple in a list, so deep."""
    value = 1
    for turn in range(depth):
        value = [value] if turn % 2 else (value,)
    return value


ODD_OBJECTS.append(nested(90))

BAD_LETTERS = [0, 5, -1, -4, 10 ** 60, True, False]

BAD_WALKS = ODD_OBJECTS + [(3,), (-3, 3), (1, 4, -4), (1,) * 59 + (0,)]

BAD_WEBS = [
    None, True, 2, "", "2: 0 0", [], (), (2,), (2, ((0, 0),), 0), [2, ((0, 0),)], {2: ((0, 0),)}, ([2], [[0, 0]]),
    (True, ((0,),)), (False, ((),)), (0, ((),)), (5, ((0,) * 5,)), (-1, ((0,),)), (None, ((0,),)), ("2", ((0, 0),)),
    (2, None), (2, ()), (2, []), (2, [(0, 0)]), (2, ([0, 0],)), (2, ((0, 0), [0, 0])), (2, "00"), (2, (0, 0)),
    (2, ((0,),)), (2, ((0, 0, 0),)), (2, ((0, 0), (0,))), (1, ((),)),
    (1, ((True,), (False,))), (1, ((False,),)), (2, ((0, None),)), (2, ((0, "0"),)), (2, ((0, [0]),)),
    (2, ((0, (0,)),)),
    (1, ((1,),)), (1, ((-2,),)), (2, ((1, 0), (0, 2))), (2, ((0, -1), (-1, -2))),
    # a letter from two rooms to one; a room that is not reached, with ways and without
    (1, ((0,), (0,))), (2, ((1, 0), (1, -1))), (2, ((0, 0), (1, 1))), (2, ((0, 0), (-1, -1))), (1, ((-1,), (1,))),
    # a room but home from which one step leads
    (1, ((1,), (-1,))), (2, ((1, 0), (-1, -1))), (2, ((1, -1), (2, 1), (-1, -1))),
    # rooms that are not numbered by their first ways
    (2, ((2, 1), (0, 2), (1, 0))), (1, ((2,), (0,), (1,))), (2, ((2, -1), (2, 0), (-1, 1))),
    (3, ((0, 2, 1), (1, 0, 2), (2, 1, 0))),
]

# Of two letters.
BAD_SHORTS = [bad for bad in ODD_OBJECTS if bad != ()] + [
    [((1,), 1)], (((1,), 1),) * 61, ((1,), 1), ([(1,), 1],), (((1,), 1), [(1,), 1]), (((1,),),), (((1,), 1, 1),),
    (([1], 1),), (((1, 2), 3), ([1], [2])), ((((1,),), 1),), (((1,), 0),), (((1,), 1), ((2,), 0)), (((), 0),),
    (((1,), True),), (((1,), False),), (((1,), None),), (((1,), "1"),), (((1,), (1,)),), (((1,), [1]),),
    (((1,), 10 ** 30 + 1),), (((1,), -10 ** 30 - 1),), (((), 10 ** 60),), (((True,), 1),), (((0,), 1),),
    (((3,), 1),), (((-3, 3), 1),), (((1,), 5), ((1, 5), 1)), ((None, 1),), (("1", 1),), ((1, 1),), ({},), (((1,), {}),),
]

BAD_BOOKS = [bad for bad in ODD_OBJECTS if bad != ()] + [
    (), (2,), (2, ()), (2, ((0,), (0,)), 0), [2, ((0,), (0,))], (2, [(0,), (0,)]), (2, ([0], (0,))), (2, ([0], [0])),
    (True, ((0,),)), (False, ()), (0, ()), (5, ((0,),) * 5), (-1, ((0,),)), (None, ((0,),)), ("1", ((0,),)),
    ([1], ((0,),)),
    (1, ((0,), (0,))), (2, ((0,),)), (2, ((0,), (0,), (0,))), (1, ((),)), (2, ((), ())), (2, ((0, 1), (0,))),
    (2, ((0,), (0, 1))), (2, ((0, 1), ())), (1, (tuple(range(41)),)), (2, (tuple(range(41)),) * 2),
    (1, ((0, 0),)), (1, ((1, 1),)), (1, ((1, 2),)), (1, ((0, 2),)), (1, ((-1, 0),)), (1, ((0, -1),)), (1, ((1,),)),
    (2, ((0, 1, 2), (0, 1, 1))), (2, ((0, 1, 2), (2, 0, 3))), (1, ((False,),)), (1, ((False, True),)),
    (1, ((0, True),)),
    (1, ((0, None),)), (1, ((0, "1"),)), (1, ((0, [1]),)), (1, ((0, (1,)),)), (1, (None,)), (1, ("0",)), (1, (0,)),
    (1, None), (1, "0"), (1, {0: (0,)}), (1, ({0: 0},)), (2, ((1, 0), (0, -1))),
]

# Of two letters.
BAD_PAPER_WALKS = [bad for bad in ODD_OBJECTS if bad != ((1,),)] + [
    (), [(1,)], ([1],), ((1,), [2]), ((1,),) * 5, ((),) * 5, ((3,),), ((1,), (2, -3)), ((1,), None), ((1, True),),
    ((0,),),
    (((1,),),), ((1,), (2,), (1, 2), ([1],)), {(1,): 1}, "1",
]

# Of two letters.
BAD_SUMS = [bad for bad in ODD_OBJECTS if bad != (0, 0)] + [
    (), (1,), (1, 2, 3), [1, 2], (1, None), ("1", 2), (True, 1), (1, False), ([1], 2), (1, [2]), ((1,), (2,)), {1: 2},
    ((1, 2),), [(1, 2)], "12",
]

# Of two letters; the last ones have endlessly many classes, or more than 60.
BAD_ROWS = [bad for bad in ODD_OBJECTS if bad != []] + [
    ((1, 0), (0, 1)), {(1, 0): (0, 1)}, [(1, 0), [0, 1]], [(1, 0), (0, 1), ()], [(1, 0), (0, 1, 0)], [(1,), (0, 1)],
    [(1, 0), (0, True)], [(False, 1), (1, 0)], [(1, 0), (0, 1), None], [(1, 0), (0, 1), "01"], [[1, 0], [0, 1]],
    [(1, 0), (0, [1])], [(1, 0), 1], [(1, 0), ((0, 1),)], [[(1, 0), (0, 1)]],
    [], [(0, 0)], [(1, 0)], [(0, 1), (0, 2)], [(2, 4), (3, 6), (-1, -2), (0, 0)], [(61, 0), (0, 1)], [(1, 0), (7, 61)],
    [(8, 0), (0, 8)], [(10 ** 59, 0), (0, 1)], [(2, 3), (10 ** 30, -1)],
]

BAD_SENDINGS = [bad for bad in ODD_OBJECTS if bad != ()] + [
    (), (2,), (2, ()), (2, ((1,), (2,)), 0), [2, ((1,), (2,))], (2, [(1,), (2,)]), (2, ([1], (2,))), (2, ((1,), [2])),
    (True, ((1,),)), (False, ()), (0, ()), (0, ((),)), (5, ((1,),)), (-1, ((1,),)), (None, ((1,),)), ("2", ((1,),)),
    (2, None), (2, "12"), (2, (1, 2)), (2, {1: (1,)}), (2, ({},)), (2, ((1,),) * 5), (4, ((),) * 5), ([2], ((1,),)),
    (2, ((1,), (3,))), (2, ((1,), (-3, 3))), (2, ((0,),)), (2, ((True,),)), (2, ((1, None),)), (1, ((1,), (2,))),
    (2, (((1,),),)), (4, ((5,),)), (2, ((1,), "2")), (2, ((1,), None)), (2, (((1,), 1),)),
]


def some_web(letters, count, rng):
    """A web without open doors, of so many rooms."""
    while True:
        turns = [rng.sample(range(count), count) for _ in range(letters)]
        web = web_of_turns(letters, turns)
        if len(web[1]) == count:
            return web


def web_of_turns(letters, turns):
    """The web of the rooms that turns lead to from 0."""
    table = {room: {} for room in range(len(turns[0]))}
    for letter, turn in enumerate(turns, 1):
        for room, after in enumerate(turn):
            table[room][letter] = after
            table[after][-letter] = room
    return renumbered(letters, table)


def slow_steps(letters):
    return [1, -1, 2, -2, 3, -3, 4, -4][:2 * letters]


def renumbered(letters, table):
    """The web of a table of steps: home is its least room."""
    home = min(table)
    ways = {home: ()}
    # All rooms by their least walks, found by trying each walk that goes one step on until nothing is better.
    changed = True
    while changed:
        changed = False
        for room in list(ways):
            for step, after in table[room].items():
                walk = ways[room] + (step,)
                if after not in ways or slow_key(walk) < slow_key(ways[after]):
                    ways[after] = walk
                    changed = True
    order = sorted(ways, key=lambda room: slow_key(ways[room]))
    rows = [
        tuple(order.index(table[room][a]) if a in table[room] else -1 for a in range(1, letters + 1)) for room in order
    ]
    return letters, tuple(rows)


def slow_led(book, place, walk):
    """The place to which a walk leads a place of a book, step by step."""
    for step in walk:
        turn = book[1][abs(step) - 1]
        place = turn[place] if step > 0 else turn.index(place)
    return place


def slow_key(walk):
    return len(walk), tuple(slow_steps(4).index(step) for step in walk)


def slow_straight(walk):
    """Pairs are left out one by one, from the last one on."""
    walk = list(walk)
    at = len(walk) - 2
    while at >= 0:
        if walk[at] == -walk[at + 1]:
            del walk[at:at + 2]
            at = len(walk) - 2
        else:
            at -= 1
    return tuple(walk)


def slow_back(walk):
    return tuple(-step for step in reversed(walk))


def all_straight(letters, length):
    """All straight walks of a length, in their order."""
    steps = slow_steps(letters)
    return [walk for walk in itertools.product(steps, repeat=length) if all(a != -b for a, b in zip(walk, walk[1:]))]


def all_straight_to(letters, length):
    return [walk for n in range(length + 1) for walk in all_straight(letters, n)]


def slow_web(letters, walks):
    """The web of a list of walks, folded by joining any two rooms that must be one and beginning again."""
    ways = []
    count = 1
    for walk in walks:
        walk = slow_straight(walk)
        at = 0
        for place, step in enumerate(walk):
            ahead = 0 if place == len(walk) - 1 else count
            count += ahead > 0
            ways.append((at, step, ahead) if step > 0 else (ahead, -step, at))
            at = ahead
    while True:
        pair = rooms_to_join(ways)
        if pair is None:
            break
        ways = sorted({tuple(min(pair) if end == max(pair) else end for end in way[::2]) + (way[1],) for way in ways})
        ways = [(first, letter, last) for first, last, letter in ways]
    table = {0: {}}
    for first, letter, last in ways:
        table.setdefault(first, {})[letter] = last
        table.setdefault(last, {})[-letter] = first
    return renumbered(letters, table)


def rooms_to_join(ways):
    for one, other in itertools.combinations(ways, 2):
        if one[1] == other[1]:
            if one[0] == other[0] and one[2] != other[2]:
                return one[2], other[2]
            if one[2] == other[2] and one[0] != other[0]:
                return one[0], other[0]
    return None


def slow_room(web, room, walk):
    """The room to which a walk leads, by its straight steps, None if to none."""
    for step in slow_straight(walk):
        if step > 0:
            room = web[1][room][step - 1]
            if room < 0:
                return None
        else:
            befores = [before for before, row in enumerate(web[1]) if row[-step - 1] == room]
            if not befores:
                return None
            room = befores[0]
    return room


def some_walk(letters, length, rng):
    """Any steps, not always straight."""
    return tuple(rng.choice(slow_steps(letters)) for _ in range(length))


def some_straight(letters, length, rng):
    walk = ()
    while len(walk) < length:
        step = rng.choice(slow_steps(letters))
        if not walk or walk[-1] != -step:
            walk += (step,)
    return walk


def some_book(letters, count, rng):
    return letters, tuple(tuple(rng.sample(range(count), count)) for _ in range(letters))


def great_short(letters, rng, count=8, steps=60):
    return tuple(
        (some_walk(letters, rng.randrange(steps + 1), rng), rng.choice([-1, 1]) * rng.randrange(1, 10 ** 30 + 1))
        for _ in range(count)
    )


def some_shorts(letters, seed, many=20):
    """Short writings of few parts and of many, with great times and small ones."""
    rng = random.Random(seed)
    great = [great_short(letters, rng, rng.randrange(1, 9), rng.choice([2, 6, 60])) for _ in range(many)]
    small = [tuple((walk, times % 5 + 1 if times % 2 else -1 - times % 5) for walk, times in short) for short in great]
    return [(), *great, *small, great_short(letters, rng, 60, 3)]


def some_lists(letters, many, seed, longest=6, most=4):
    """So many lists of walks, from few short ones to more."""
    rng = random.Random(seed)
    for _ in range(many):
        yield [some_walk(letters, rng.randrange(longest + 1), rng) for _ in range(rng.randrange(most + 1))]


def lists_in(value):
    """All lists in lists and tuples, each as often as it stands there."""
    if isinstance(value, (list, tuple)):
        return ([value] if isinstance(value, list) else []) + [row for part in value for row in lists_in(part)]
    return []


def told_alike(one, other):
    """Whether two objects are equal in all their parts, and of the same kinds (True is not 1)."""
    return repr(one) == repr(other)


def webs_with(letters, seed, many=10):
    """Webs of so many letters, with open doors and without, that of `()` alone and that of all walks."""
    rng = random.Random(seed)
    folded = [web_of(letters, walks) for walks in some_lists(letters, many, seed, 5)]
    closed = [some_web(letters, count, rng) for count in (1, 2, 3, 5)] if letters > 1 else [whole(1)]
    return [*folded, *closed, nothing(letters), whole(letters)]


def turned_by(web, walk):
    """The web of all walks back the walk, then one of the club, then the walk."""
    return web_of(web[0], [slow_back(walk) + member + walk for member in basis(web)])


def look_at_lists(case, value, arguments):
    """All lists in a value are new, and in one place alone."""
    ids = [id(row) for row in lists_in(value)]
    case.assertEqual(len(ids), len(set(ids)), "a list stands in two places")
    case.assertFalse(set(ids) & {id(row) for row in lists_in(arguments)}, "a list of the arguments is kept")


def look_at_refusal(case, error, value, function, arguments, names=None):
    """A call is refused with just this class and value, by position and by name, and changes nothing."""
    before = copy.deepcopy(arguments)
    with case.assertRaises(error, msg=f"{function.__name__}{arguments!r}") as caught:
        if names is None:
            function(*arguments)
        else:
            function(**dict(zip(names, arguments)))
    case.assertIs(type(caught.exception), error)
    case.assertTrue(told_alike(caught.exception.value, value), f"{function.__name__}{arguments!r}")
    look_at_lists(case, caught.exception.value, arguments)
    case.assertTrue(told_alike(arguments, before))


KINDS = {
    "web": (BAD_WEBS, InvalidWeb), "short": (BAD_SHORTS, InvalidShort), "book": (BAD_BOOKS, InvalidBook),
    "paper walks": (BAD_PAPER_WALKS, InvalidWalks), "sums": (BAD_SUMS, InvalidSums), "rows": (BAD_ROWS, InvalidRows),
    "sending": (BAD_SENDINGS, InvalidSending),
}


def faults(kind, good):
    """What is faulty for a kind of parameters: (argument, error, value) each."""
    if kind == "letters":
        return [(bad, InvalidLetters, bad) for bad in BAD_LETTERS]
    if kind in ("walk", "walk of four"):
        bads = ODD_OBJECTS if kind == "walk of four" else BAD_WALKS
        return [(bad, InvalidWalk, bad) for bad in bads]
    if kind == "walks":
        rows = [[*good, bad, *good] for bad in BAD_WALKS] + [[bad, None, (0,), *good] for bad in BAD_WALKS]
        bads = BAD_WALKS * 2
        return [(row, InvalidWalk, bad) for row, bad in zip(rows, bads)]
    if isinstance(kind, str) and kind in KINDS:
        bads, error = KINDS[kind]
        return [(bad, error, bad) for bad in bads]
    if kind == "writing":
        bads = [*ODD_OBJECTS, (len(good) + 4,), (1, -5)]
        return [(bad, InvalidWriting, bad) for bad in bads]
    return [(bad, InvalidNumber, bad) for bad in kind]


def look_at_refusals(case, function, *parameters):
    """Each kind of faulty argument alone, and with faulty ones behind it; parameters: (name, kind, good one)."""
    names = [name for name, _, _ in parameters]
    goods = [good for _, _, good in parameters]
    wrongs = [faults(kind, good) for _, kind, good in parameters]
    for at, bads in enumerate(wrongs):
        behind = [rows[0][0] if rows else None for rows in wrongs[at + 1:]]
        for bad, error, value in bads:
            look_at_refusal(case, error, value, function, [*goods[:at], bad, *goods[at + 1:]])
            look_at_refusal(case, error, value, function, [*goods[:at], bad, *behind])
            look_at_refusal(case, error, value, function, [*goods[:at], bad, *behind], names)


def look_at_answer(case, expected, function, *arguments, **named):
    """A call answers just this; its lists are new and the arguments stay as they were."""
    before = copy.deepcopy((arguments, named))
    answer = function(*arguments, **named)
    case.assertTrue(told_alike(answer, expected), f"{function.__name__}{arguments!r}{named!r}: {answer!r}")
    look_at_lists(case, answer, [*arguments, *named.values()])
    case.assertTrue(told_alike((arguments, named), before))
