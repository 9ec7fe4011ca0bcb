"""[5], [11]: the order of walks, and walkclubs/orders.py."""

import random
import unittest

from tests.helpers import (
    BAD_WALKS, all_straight, all_straight_to, look_at_answer, look_at_refusal, look_at_refusals, slow_steps,
    slow_straight, some_straight, some_walk,
)
from walkclubs.errors import InvalidLetters, InvalidNumber, InvalidWalk
from walkclubs.orders import between, first_without, how_many, how_many_without, next_walk, nth_walk, number_of

BAD_NUMBERS = [-1, -10 ** 59, True, False]
SIXTY_FIGURES = 10 ** 60 - 1


def slow_without(letters, told, length):
    def stands(walk):
        return any(walk[at:at + len(row)] == row for row in told for at in range(len(walk)))
    return [walk for walk in all_straight(letters, length) if not stands(walk)]


class Examples(unittest.TestCase):
    def test_of_the_document(self):
        for expected, function, *arguments in [
            (36, how_many, 2, 3), ((1, 2), nth_walk, 2, 6), (2, number_of, 2, (-1,)), ((1, 1), next_walk, 2, (-2,)),
            (2, between, 2, 1, -1, 3), (7, how_many_without, 2, [(1,)], 2), ((-1, -1), first_without, 2, [(1,)], 2),
        ]:
            look_at_answer(self, expected, function, *arguments)

    def test_by_name(self):
        look_at_answer(self, 36, how_many, length=3, letters=2)
        look_at_answer(self, (1, 2), nth_walk, number=6, letters=2)
        look_at_answer(self, 2, number_of, walk=(-1,), letters=2)
        look_at_answer(self, (1, 1), next_walk, walk=(-2,), letters=2)
        look_at_answer(self, 2, between, length=3, last=-1, first=1, letters=2)
        look_at_answer(self, 7, how_many_without, length=2, told=[(1,)], letters=2)
        look_at_answer(self, (-1, -1), first_without, length=2, told=[(1,)], letters=2)


class Numbers(unittest.TestCase):
    def test_how_many(self):
        for letters in (1, 2, 3, 4):
            for length in range(5):
                look_at_answer(self, len(all_straight(letters, length)), how_many, letters, length)
            self.assertEqual(how_many(letters, 100), 2 * letters * (2 * letters - 1) ** 99)
        self.assertEqual([how_many(1, 0), how_many(1, 1), how_many(1, 100)], [1, 2, 2])

    def test_all_short_walks_in_order(self):
        for letters, length in ((1, 9), (2, 5), (3, 4), (4, 3)):
            walks = all_straight_to(letters, length)
            for number, walk in enumerate(walks):
                look_at_answer(self, walk, nth_walk, letters, number)
                look_at_answer(self, number, number_of, letters, walk)
                if number:
                    look_at_answer(self, walk, next_walk, letters, walks[number - 1])
            self.assertEqual(next_walk(letters, walks[-1]), (1,) * (length + 1))

    def test_straightened(self):
        rng = random.Random(1)
        for _ in range(50):
            walk = some_walk(3, rng.randrange(60), rng)
            self.assertEqual(number_of(3, walk), number_of(3, slow_straight(walk)))
            self.assertEqual(next_walk(3, walk), next_walk(3, slow_straight(walk)))
        self.assertEqual(number_of(2, (1, -1)), 0)
        self.assertEqual(next_walk(2, (2, -2)), (1,))

    def test_great_numbers(self):
        rng = random.Random(2)
        for letters in (2, 3, 4):
            for number in [SIXTY_FIGURES, 10 ** 59] + [rng.randrange(10 ** 60) for _ in range(10)]:
                walk = nth_walk(letters, number)
                self.assertEqual(slow_straight(walk), walk)
                self.assertEqual(number_of(letters, walk), number)
                self.assertEqual(next_walk(letters, walk), nth_walk(letters, number + 1))

    def test_walks_of_four_hundred_steps(self):
        rng = random.Random(3)
        for letters in (1, 2, 3, 4):
            walks = [some_straight(letters, 400, rng) for _ in range(3)] if letters > 1 else [(1,) * 400, (-1,) * 400]
            for walk in walks:
                number = number_of(letters, walk)
                self.assertEqual(nth_walk(letters, number), walk)
                self.assertEqual(nth_walk(letters, number + 1), next_walk(letters, walk))
        self.assertEqual(number_of(1, (1,) * 400), 799)
        self.assertEqual(number_of(1, (-1,) * 400), 800)
        self.assertEqual(number_of(2, (1,) * 400), 1 + sum(4 * 3 ** (n - 1) for n in range(1, 400)))

    def test_between(self):
        for letters in (1, 2, 3):
            for length in range(1, 5):
                for first in slow_steps(letters):
                    for last in slow_steps(letters):
                        walks = [w for w in all_straight(letters, length) if w[0] == first and w[-1] == last]
                        look_at_answer(self, len(walks), between, letters, first, last, length)
        for letters in (1, 2, 3, 4):
            total = sum(between(letters, 1, last, 100) for last in slow_steps(letters))
            self.assertEqual(total, (2 * letters - 1) ** 99)
        self.assertEqual([between(1, 1, 1, 100), between(1, 1, -1, 100)], [1, 0])


class Without(unittest.TestCase):
    def test_counted_one_by_one(self):
        rng = random.Random(4)
        for turn in range(60):
            letters = rng.choice((1, 2, 2, 3))
            told = [some_straight(letters, rng.randrange(1, 6), rng) for _ in range(rng.randrange(5))]
            for length in range(6 if letters < 3 else 5):
                walks = slow_without(letters, told, length)
                look_at_answer(self, len(walks), how_many_without, letters, told, length)
                look_at_answer(self, walks[0] if walks else None, first_without, letters, told, length)

    def test_edges(self):
        for letters in (1, 2, 4):
            look_at_answer(self, how_many(letters, 100), how_many_without, letters, [], 100)
            look_at_answer(self, (1,) * 100, first_without, letters, [], 100)
            look_at_answer(self, 1, how_many_without, letters, [(1,), (-1,)], 0)
            look_at_answer(self, (), first_without, letters, [(1,), (-1,)], 0)
        look_at_answer(self, 0, how_many_without, 1, [(1,), (-1,)], 1)
        look_at_answer(self, None, first_without, 1, [(1,), (-1,)], 100)
        # A dead end must be seen a long way ahead.
        told = [(1, 1, 1), (1, 2), (1, -2), (1, 1, 2), (1, 1, -2)]
        self.assertEqual(first_without(2, told, 2), (1, 1))
        self.assertEqual(first_without(2, told, 3), slow_without(2, told, 3)[0])
        self.assertEqual(first_without(2, told, 100)[:2], (-1, -1))

    def test_told_ones_within_one_another(self):
        for told in ([(1, 2), (2, 1, 2)], [(1, 2, 1, 2, 1), (2, 1, 2)], [(1, 1), (1, 1, 1), (1, 1)], [(1, 2, 1, 2, 2)]):
            for length in range(8):
                walks = slow_without(2, told, length)
                self.assertEqual(how_many_without(2, told, length), len(walks))
                self.assertEqual(first_without(2, told, length), walks[0])

    def test_many_told(self):
        rng = random.Random(5)
        told = [some_straight(4, 5, rng) for _ in range(200)]
        self.assertEqual(how_many_without(4, told, 5), how_many(4, 5) - len(set(told)))
        walk = first_without(4, told, 100)
        self.assertEqual(len(walk), 100)
        self.assertFalse(any(walk[at:at + 5] in told for at in range(96)))


class WrongArguments(unittest.TestCase):
    def test_refusals(self):
        letters = ("letters", "letters", 2)
        look_at_refusals(self, how_many, letters, ("length", BAD_NUMBERS, 3))
        look_at_refusals(self, nth_walk, letters, ("number", BAD_NUMBERS, 3))
        look_at_refusals(self, number_of, letters, ("walk", "walk", (1, 2)))
        look_at_refusals(self, next_walk, letters, ("walk", "walk", (1, 2)))
        no_steps = [0, 3, -3, 5, 10 ** 59, True, False]
        look_at_refusals(
            self, between, letters, ("first", no_steps, 1), ("last", no_steps, -2), ("length", [0, *BAD_NUMBERS], 1))

    def test_told(self):
        bads = [*BAD_WALKS, (), (1, -1), (1, 1, 2, -2), (1,) * 6, (1, 2) * 30]
        for function in (how_many_without, first_without):
            for bad in bads:
                for told in ([bad], [(1,), bad, (0,), None], [(1, 2, 1, 2, 1), (-2,), bad, bad]):
                    look_at_refusal(self, InvalidWalk, bad, function, [2, told, 3])
                    look_at_refusal(self, InvalidWalk, bad, function, [2, told, -1], ["letters", "told", "length"])
                    look_at_refusal(self, InvalidLetters, 0, function, [0, told, -1])
            for bad in BAD_NUMBERS:
                look_at_refusal(self, InvalidNumber, bad, function, [2, [(1,)], bad])
            for bad in (0, 5, -1):
                look_at_refusal(self, InvalidLetters, bad, function, [bad, [(1,)], 1])


if __name__ == "__main__":
    unittest.main()
