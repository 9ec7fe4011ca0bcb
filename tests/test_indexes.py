"""[33]: webs without an open door, and walkclubs/indexes.py; [35], so far as it is asked for there."""

import itertools
import math
import random
import unittest

from tests.helpers import (
    EVEN, HALF, NOTHING, WHOLE, look_at_answer, look_at_lists, look_at_refusals, renumbered, slow_back, slow_room,
    slow_steps, some_lists, some_walk, some_web, turned_by, web_of_turns,
)
from walkclubs.bases import basis
from walkclubs.indexes import above, all_webs, clubs_number, closed, closings, kept_webs, turned_classes
from walkclubs.webs import is_web, nothing, rooms, web_of, whole

BOUNDS = [(1, 6), (2, 4), (3, 3), (4, 2)]
TWELVE = some_web(2, 12, random.Random(70))
FORTY = some_web(4, 40, random.Random(72))
SIXTY = some_web(4, 60, random.Random(80))
RING = web_of(2, [(1,) * 60])


def slow_webs(letters, count):
    """All webs without open doors of so many rooms, from all turns of that many places."""
    turns = list(itertools.permutations(range(count)))
    webs = {web_of_turns(letters, chosen) for chosen in itertools.product(turns, repeat=letters)}
    return sorted(web for web in webs if len(web[1]) == count)


def rooted(web, home):
    """The web with another room as home."""
    count = len(web[1])
    names = {room: count + room for room in range(count)}
    names[home] = 0
    table = {
        names[room]: {step: names[slow_room(web, room, (step,))] for step in slow_steps(web[0])}
        for room in range(count)
    }
    return renumbered(web[0], table)


def holds_all(web, walks):
    return all(slow_room(web, 0, walk) == 0 for walk in walks)


def some_ways_left_out(web, many, rng):
    """A web with open doors: some ways of one without them are left out, as far as each room can be reached."""
    letters, rows = web
    return web_of(letters, rng.sample(basis(web), min(many, len(basis(web)))))


class Examples(unittest.TestCase):
    def test_of_the_document(self):
        for count, number in enumerate([1, 3, 13, 71], 1):
            look_at_answer(self, number, clubs_number, 2, count)
        for expected, function, *arguments in [
            ([(2, ((0, 1), (1, 0))), (2, ((1, 0), (0, 1))), (2, ((1, 1), (0, 0)))], all_webs, 2, 2),
            (1, closings, HALF), (6, closings, (2, ((-1, 1), (-1, 2), (-1, 0)))),
            ([(2, ((0, 0),)), (2, ((1, 0), (0, 1)))], above, HALF, 2),
        ]:
            look_at_answer(self, expected, function, *arguments)
        self.assertEqual(len(kept_webs(2, 3)), 4)
        self.assertEqual(len(turned_classes(2, 3)), 7)

    def test_by_name(self):
        look_at_answer(self, 13, clubs_number, index=3, letters=2)
        look_at_answer(self, [(2, ((0, 1), (1, 0))), (2, ((1, 0), (0, 1))), (2, ((1, 1), (0, 0)))],
                       all_webs, index=2, letters=2)
        look_at_answer(self, kept_webs(2, 3), kept_webs, index=3, letters=2)
        look_at_answer(self, turned_classes(2, 3), turned_classes, index=3, letters=2)
        look_at_answer(self, 6, closings, web=(2, ((-1, 1), (-1, 2), (-1, 0))))
        look_at_answer(self, EVEN, closed, web=HALF)
        look_at_answer(self, [(2, ((0, 0),)), (2, ((1, 0), (0, 1)))], above, index=2, web=HALF)


class Numbers(unittest.TestCase):
    def test_h1(self):
        for letters in (1, 2, 3, 4):
            numbers = {}
            for count in range(1, 41):
                fewer = sum(
                    math.factorial(count - other) ** (letters - 1) * numbers[other] for other in range(1, count)
                )
                numbers[count] = count * math.factorial(count) ** (letters - 1) - fewer
                look_at_answer(self, numbers[count], clubs_number, letters, count)
            self.assertEqual(numbers[1], 1)
        self.assertEqual([clubs_number(1, count) for count in range(1, 41)], [1] * 40)

    def test_as_many_as_there_are(self):
        for letters, most in BOUNDS:
            for count in range(1, most + 1):
                look_at_answer(self, len(all_webs(letters, count)), clubs_number, letters, count)


class AllWebs(unittest.TestCase):
    def test_by_trying_all_turns(self):
        for letters, most in BOUNDS:
            for count in range(1, most + 1):
                webs = all_webs(letters, count)
                look_at_answer(self, slow_webs(letters, count), all_webs, letters, count)
                self.assertTrue(all(is_web(web) for web in webs))

    def test_somewhat_beyond(self):
        self.assertEqual(len(set(all_webs(2, 5))), 461)
        self.assertEqual(len(set(all_webs(4, 3))), clubs_number(4, 3))
        look_at_answer(self, [web_of(1, [(1,) * 40])], all_webs, 1, 40)

    def test_classes(self):
        for letters, most in BOUNDS:
            for count in range(1, most + 1):
                left = slow_webs(letters, count)
                classes = []
                while left:
                    alike = sorted({rooted(left[0], home) for home in range(count)})
                    classes.append(alike)
                    left = [web for web in left if web not in alike]
                look_at_answer(self, classes, turned_classes, letters, count)
                look_at_answer(self, [alike[0] for alike in classes if len(alike) == 1], kept_webs, letters, count)

    def test_classes_by_turning_with_walks(self):
        rng = random.Random(1)
        for letters, count in ((2, 3), (2, 4), (3, 3), (4, 2)):
            classes = turned_classes(letters, count)
            where = {web: number for number, alike in enumerate(classes) for web in alike}
            self.assertEqual(sum(len(alike) for alike in classes), clubs_number(letters, count))
            kept = kept_webs(letters, count)
            for web in all_webs(letters, count):
                turned = [turned_by(web, some_walk(letters, rng.randrange(6), rng)) for _ in range(4)]
                turned += [turned_by(web, (letter,)) for letter in range(1, letters + 1)]
                self.assertEqual({where[other] for other in turned}, {where[web]})
                self.assertEqual(web in kept, all(other == web for other in turned))

    def test_kept_webs_of_prime_index(self):
        # Of a prime index they are those of the sums: as many as there are lines.
        self.assertEqual([len(kept_webs(letters, 2)) for letters in (1, 2, 3, 4)], [1, 3, 7, 15])
        self.assertEqual([len(kept_webs(letters, 3)) for letters in (1, 2, 3)], [1, 4, 13])
        self.assertEqual([len(kept_webs(1, count)) for count in range(1, 7)], [1] * 6)
        self.assertEqual(len(kept_webs(2, 4)), 7)


class Closings(unittest.TestCase):
    def closed_webs(self, web):
        """All closings of a web, in its rooms as they stand, as lists of turns."""
        letters, rows = web
        turns = list(itertools.permutations(range(len(rows))))
        fitting = [
            [turn for turn in turns if all(row[at] in (-1, turn[room]) for room, row in enumerate(rows))]
            for at in range(letters)
        ]
        return list(itertools.product(*fitting))

    def test_by_trying_all_turns(self):
        webs = [web_of(letters, walks) for letters in (1, 2, 3) for walks in some_lists(letters, 25, letters, 4, 3)]
        webs += [NOTHING, WHOLE, HALF, EVEN, (2, ((-1, 1), (-1, 2), (-1, 0)))]
        for web in [web for web in webs if len(web[1]) <= 5]:
            found = self.closed_webs(web)
            look_at_answer(self, len(found), closings, web)
            self.assertIn(closed(web), {web_of_turns(web[0], turns) for turns in found})

    def look(self, web):
        answer = closed(web)
        look_at_lists(self, answer, [web])
        self.assertTrue(is_web(answer))
        self.assertEqual(len(answer[1]), len(web[1]))
        self.assertTrue(all(after >= 0 for row in answer[1] for after in row))
        self.assertTrue(holds_all(answer, basis(web)))

    def test_of_great_webs(self):
        rng = random.Random(2)
        for web in (RING, SIXTY, FORTY, TWELVE, web_of(2, [(1,) * 20 + (2,) * 20])):
            self.look(web)
        for many in (1, 3, 10, 40):
            for web in (TWELVE, FORTY, SIXTY):
                self.look(some_ways_left_out(web, many, rng))
        look_at_answer(self, math.factorial(60), closings, RING)
        look_at_answer(self, 1, closings, SIXTY)
        row = web_of(4, [(1,) * 20 + (2,) + (3,) * 20])
        self.assertEqual(rooms(row), 41)
        look_at_answer(self, math.factorial(21) ** 2 * math.factorial(40) * math.factorial(41), closings, row)

    def test_edges(self):
        for letters in (1, 2, 3, 4):
            for web in (nothing(letters), whole(letters)):
                look_at_answer(self, 1, closings, web)
                look_at_answer(self, whole(letters), closed, web)
        for web in (EVEN, TWELVE, FORTY, SIXTY):
            look_at_answer(self, web, closed, web)
        look_at_answer(self, EVEN, closed, HALF)
        # What is closed may have its rooms in another sequence.
        self.assertTrue(is_web(closed((2, ((-1, 1), (-1, 2), (-1, 0))))))


class Above(unittest.TestCase):
    def look(self, web, most):
        webs = [other for count in range(1, most + 1) for other in slow_webs(web[0], count)]
        expected = sorted(other for other in webs if holds_all(other, basis(web)))
        look_at_answer(self, expected, above, web, most)

    def test_of_all_webs(self):
        for letters, most in BOUNDS:
            for walks in some_lists(letters, 6, 10 + letters):
                for count in range(1, most + 1):
                    self.look(web_of(letters, walks), count)
            self.look(nothing(letters), most)
            self.look(whole(letters), most)
        for web in (HALF, EVEN, TWELVE, RING, web_of(2, [(1,) * 12, (2, 1, 2), (1, 2, 1, 2)])):
            self.look(web, 4)

    def test_of_great_webs(self):
        self.look(SIXTY, 2)
        self.look(FORTY, 2)
        self.look(web_of(1, [(1,) * 60]), 6)
        rings = sorted(web_of(1, [(1,) * count]) for count in (1, 2, 3, 4, 5, 6))
        look_at_answer(self, rings, above, web_of(1, [(1,) * 60]), 6)
        look_at_answer(self, sorted(web_of(1, [(1,) * count]) for count in (1, 2, 4)), above, web_of(1, [(1,) * 8]), 6)

    def test_edges(self):
        for letters in (1, 2, 3, 4):
            look_at_answer(self, [whole(letters)], above, nothing(letters), 1)
            look_at_answer(self, [whole(letters)], above, whole(letters), 2)
        look_at_answer(self, sorted([WHOLE] + all_webs(2, 2) + all_webs(2, 3)), above, NOTHING, 3)
        look_at_answer(self, [WHOLE], above, web_of(2, [(1, 2), (2,)]), 4)


class WrongArguments(unittest.TestCase):
    INDEXES = [0, 41, -1, 10 ** 59, -10 ** 59, True, False]

    def test_letters_and_indexes(self):
        for function in (clubs_number, all_webs, turned_classes, kept_webs):
            look_at_refusals(self, function, ("letters", "letters", 2), ("index", self.INDEXES, 2))

    def test_webs(self):
        for function in (closings, closed):
            look_at_refusals(self, function, ("web", "web", HALF))
        look_at_refusals(self, above, ("web", "web", HALF), ("index", self.INDEXES, 2))


if __name__ == "__main__":
    unittest.main()
