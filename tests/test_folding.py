"""[13]: petals and joinings, walkclubs/folding.py, and the fact J1."""

import itertools
import random
import unittest

from tests.helpers import (
    ODD_OBJECTS, look_at_answer, look_at_refusals, slow_straight, some_lists, some_straight,
)
from walkclubs.folding import joined_rooms, joinings, joinings_hold, petals
from walkclubs.webs import rooms, web_of

PAIR = [(1, 2), (1, -2)]


class Groups:
    """Rooms that are one, each as a set of its own."""

    def __init__(self, count):
        self.groups = [{room} for room in range(count)]

    def of(self, room):
        return next(group for group in self.groups if room in group)

    def far_rooms(self, one, other):
        """The rooms that two ways join; None if they join none."""
        if one[1] != other[1]:
            return None
        for near, far in ((0, 2), (2, 0)):
            if self.of(one[near]) is self.of(other[near]) and self.of(one[far]) is not self.of(other[far]):
                return one[far], other[far]
        return None

    def join(self, one, other):
        one, other = self.of(one), self.of(other)
        self.groups = [group for group in self.groups if group is not one and group is not other] + [one | other]

    def all_pairs(self, ways):
        pairs = itertools.combinations(range(len(ways)), 2)
        return [(i, k) for i, k in pairs if self.far_rooms(ways[i], ways[k]) is not None]


def slow_petals(walks):
    count, ways = 1, []
    for walk in map(slow_straight, walks):
        ring = [0, *range(count, count + len(walk) - 1), 0] if walk else []
        count += max(len(walk) - 1, 0)
        for at, step in enumerate(walk):
            ways.append((ring[at], step, ring[at + 1]) if step > 0 else (ring[at + 1], -step, ring[at]))
    return count, ways


def slow_holds(walks, value):
    count, ways = slow_petals(walks)
    groups = Groups(count)
    for i, k in value:
        if not 0 <= i < k < len(ways) or groups.far_rooms(ways[i], ways[k]) is None:
            return False
        groups.join(*groups.far_rooms(ways[i], ways[k]))
    return not groups.all_pairs(ways)


def some_joinings(walks, rng):
    """Joinings in any right sequence, and the rooms behind them."""
    count, ways = slow_petals(walks)
    groups = Groups(count)
    told = []
    while groups.all_pairs(ways):
        told.append(rng.choice(groups.all_pairs(ways)))
        groups.join(*groups.far_rooms(ways[told[-1][0]], ways[told[-1][1]]))
    return told, sorted(sorted(group) for group in groups.groups)


class Examples(unittest.TestCase):
    def test_of_the_document(self):
        look_at_answer(self, (3, [(0, 1, 1), (1, 2, 0), (0, 1, 2), (0, 2, 2)]), petals, 2, PAIR)
        look_at_answer(self, True, joinings_hold, 2, PAIR, [(0, 2)])
        look_at_answer(self, False, joinings_hold, 2, PAIR, [])
        look_at_answer(self, [[0], [1, 2]], joined_rooms, 2, PAIR)
        look_at_answer(self, [(0, 2)], joinings, 2, PAIR)

    def test_by_name(self):
        look_at_answer(self, (1, [(0, 2, 0)]), petals, walks=[(2,)], letters=2)
        look_at_answer(self, [(0, 2)], joinings, walks=PAIR, letters=2)
        look_at_answer(self, True, joinings_hold, value=[(0, 2)], walks=PAIR, letters=2)
        look_at_answer(self, [[0], [1, 2]], joined_rooms, walks=PAIR, letters=2)


class Petals(unittest.TestCase):
    def test_walk_by_walk(self):
        for letters in (1, 2, 4):
            for walks in some_lists(letters, 60, letters, longest=9):
                look_at_answer(self, slow_petals(walks), petals, letters, walks)

    def test_edges(self):
        look_at_answer(self, (1, []), petals, 1, [])
        look_at_answer(self, (1, []), petals, 4, [(), (4, -4), (1, 2, -2, -1)])
        look_at_answer(self, (1, [(0, 1, 0), (0, 1, 0)]), petals, 1, [(1,), (-1,)])
        look_at_answer(self, (2, [(1, 3, 0), (0, 4, 1)]), petals, 4, [(-3, -4)])
        rng = random.Random(1)
        walks = [some_straight(4, 60, rng) for _ in range(8)]
        count, ways = petals(4, walks)
        self.assertEqual((count, len(ways)), (8 * 59 + 1, 480))


class Joinings(unittest.TestCase):
    def test_they_hold(self):
        rng = random.Random(2)
        for letters in (1, 2, 3):
            for walks in some_lists(letters, 40, 10 + letters, longest=5):
                told = joinings(letters, walks)
                self.assertIs(type(told), list)
                self.assertTrue(all(type(pair) is tuple and pair[0] < pair[1] for pair in told))
                self.assertTrue(slow_holds(walks, told))
                look_at_answer(self, True, joinings_hold, letters, walks, told)
                other, groups = some_joinings(walks, rng)
                # J1: as many in each list.
                self.assertEqual(len(told), len(other))
                look_at_answer(self, True, joinings_hold, letters, walks, other)
                look_at_answer(self, groups, joined_rooms, letters, walks)
                self.assertEqual(len(groups), rooms(web_of(letters, walks)))
                self.assertEqual(len(told), petals(letters, walks)[0] - len(groups))

    def test_one_wrong_place(self):
        rng = random.Random(3)
        seen = {True: 0, False: 0}
        for walks in some_lists(2, 40, 20, longest=5):
            told, _ = some_joinings(walks, rng)
            many = len(petals(2, walks)[1])
            wrongs = [told + told[:1], told[:-1], told[1:], told[::-1], told + [(0, many)], [(-1, 0)] + told]
            for at in range(len(told)):
                other = tuple(sorted(rng.sample(range(many), 2)))
                wrongs += [told[:at] + [other] + told[at + 1:], told[:at] + [other] + told[at:]]
                wrongs.append(told[:at] + told[at + 1:])
                wrongs.append(told[:at] + [told[at][::-1]] + told[at + 1:])
            for value in wrongs:
                expected = slow_holds(walks, value)
                seen[expected] += 1
                look_at_answer(self, expected, joinings_hold, 2, walks, value)
        self.assertTrue(min(seen.values()) > 10)

    def test_any_objects(self):
        for value in [*ODD_OBJECTS, [(0, 2), None], [(0, 2), ()], [(0,)], [(0, 2, 1)], [[0, 2]], [(0, [2])], [(2, 0)],
                      [(0, 0)], [(False, 2)], [(0, True)], [(0, "2")], [(None, 2)], ((0, 2),), {(0, 2): 1}, [(0, 4)],
                      [(-2, 2)], [(0, 10 ** 60)], [(1, 3)], [(0, 1)], [(0, 2), (1, 3)], [(0, 2), (0, 2)], object()]:
            self.assertIs(joinings_hold(2, PAIR, value), False, value)
        for value in ODD_OBJECTS:
            look_at_answer(self, value == [], joinings_hold, 2, [(1, 2)], value)
        look_at_answer(self, True, joinings_hold, 1, [], [])
        look_at_answer(self, False, joinings_hold, 1, [], [(0, 1)])

    def test_numbers_are_not_counted_from_the_end(self):
        look_at_answer(self, True, joinings_hold, 2, [(1, 2), (1,)], [(0, 2)])
        look_at_answer(self, False, joinings_hold, 2, [(1, 2), (1,)], [(-1, 0)])
        look_at_answer(self, False, joinings_hold, 2, [(1, 2), (1,)], [(-3, 2)])

    def test_ways_that_are_one_join_nothing(self):
        look_at_answer(self, [], joinings, 1, [(1,), (1,), (-1,)])
        look_at_answer(self, False, joinings_hold, 1, [(1,), (1,)], [(0, 1)])
        look_at_answer(self, [[0]], joined_rooms, 1, [(1,), (1,)])
        look_at_answer(self, [[0, 1, 2]], joined_rooms, 1, [(1, 1, 1), (1,)])

    def test_ends_join_beginnings(self):
        look_at_answer(self, True, joinings_hold, 2, [(1, 2), (2, 2)], [(1, 3)])
        look_at_answer(self, [[0], [1, 2]], joined_rooms, 2, [(1, 2), (2, 2)])

    def test_eight_walks_of_sixty_steps(self):
        rng = random.Random(4)
        walks = [some_straight(2, 60, rng) for _ in range(8)]
        told = joinings(2, walks)
        self.assertIs(joinings_hold(2, walks, told), True)
        self.assertIs(joinings_hold(2, walks, told[:-1]), False)
        self.assertEqual(len(joined_rooms(2, walks)), rooms(web_of(2, walks)))
        self.assertEqual(sorted(sum(joined_rooms(2, walks), [])), list(range(473)))


class WrongArguments(unittest.TestCase):
    def test_refusals(self):
        letters, walks = ("letters", "letters", 2), ("walks", "walks", [(1,), (1, 2)])
        for function in (petals, joinings, joined_rooms):
            look_at_refusals(self, function, letters, walks)

    def test_refusals_ahead_of_any_object(self):
        look_at_refusals(self, joinings_hold, ("letters", "letters", 2), ("walks", "walks", PAIR), ("value", [], None))


if __name__ == "__main__":
    unittest.main()
