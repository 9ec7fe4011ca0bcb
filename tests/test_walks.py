"""[4], [5], [10]: steps, walks, their order, and walkclubs/walks.py."""

import itertools
import random
import unittest

from tests.helpers import (
    ODD_OBJECTS, all_straight, all_straight_to, look_at_answer, look_at_refusals, slow_back, slow_key, slow_straight,
    some_straight, some_walk,
)
from walkclubs.walks import (
    back, behind, commute, core, is_walk, least_turned, power, root, straight, turned, turned_onto,
)

EDGES = [
    (), (1,), (-4,), (1, -1), (2, 1, -1, -2), (4, -4, 4), (1, 2, -2, -1, 3), (1,) * 60, (1, -1) * 30, (3, -4) * 200,
]


def walks_to_try(seed, many=60, longest=60):
    rng = random.Random(seed)
    return EDGES + [some_walk(rng.choice((1, 2, 4)), rng.randrange(longest + 1), rng) for _ in range(many)]


class Examples(unittest.TestCase):
    def test_of_the_document(self):
        for expected, function, *arguments in [
            ((1, 1), straight, (1, 2, -2, 1)), ((1, 1), behind, (1, 2), (-2, 1)), ((-2, -1), back, (1, 2)),
            ((-2, -1, -2, -1), power, (1, 2), -2), (((1,), (2,)), core, (1, 2, -1)),
            (((1, 2, -1), 2), root, (1, 2, 2, -1)), ((1,), turned_onto, (1, 2), (2, 1)),
            ((1, 2), least_turned, (2, -1, 1, 1)),
        ]:
            look_at_answer(self, expected, function, *arguments)

    def test_by_name(self):
        look_at_answer(self, True, is_walk, value=(1,))
        look_at_answer(self, (1, 1), straight, walk=(1, 2, -2, 1))
        look_at_answer(self, (1, 1), behind, other=(-2, 1), one=(1, 2))
        look_at_answer(self, (-2, -1), back, walk=(1, 2))
        look_at_answer(self, (1, 2, 1, 2), power, times=2, walk=(1, 2))
        look_at_answer(self, ((1,), (2,)), core, walk=(1, 2, -1))
        look_at_answer(self, ((1,), 2), root, walk=(1, 1))
        look_at_answer(self, False, commute, other=(2,), one=(1,))
        look_at_answer(self, (-2, 1, 2), turned, other=(2,), walk=(1,))
        look_at_answer(self, (1,), turned_onto, other=(2, 1), one=(1, 2))
        look_at_answer(self, (1, 2), least_turned, walk=(2, 1))


class IsWalk(unittest.TestCase):
    def test_any_objects(self):
        for value in ODD_OBJECTS:
            look_at_answer(self, False, is_walk, value)
        for value in EDGES + [(3, -3), tuple(range(1, 5)), (4, -4)]:
            look_at_answer(self, True, is_walk, value)
        for value in (object(), len, is_walk, frozenset(), range(3)):
            self.assertIs(is_walk(value), False)


class Straightening(unittest.TestCase):
    def test_the_same_in_whatever_sequence(self):
        for walk in walks_to_try(1):
            look_at_answer(self, slow_straight(walk), straight, walk)
            look_at_answer(self, slow_back(slow_straight(walk)), back, walk)

    def test_all_short_ones(self):
        for length in range(7):
            for walk in itertools.product((1, -1, 2, -2), repeat=length):
                self.assertEqual(straight(walk), slow_straight(walk))

    def test_behind(self):
        walks = walks_to_try(2, 20)
        for one, other in itertools.product(walks, walks):
            look_at_answer(self, slow_straight(one + other), behind, one, other)

    def test_power(self):
        for walk in [(), (1, -1), (1,), (1, 2, -1), (3, 3, 2), (1, 2) * 30]:
            for times in range(-20, 21):
                many = walk * times if times >= 0 else slow_back(walk) * -times
                look_at_answer(self, slow_straight(many), power, walk, times)


class Cores(unittest.TestCase):
    def test_core(self):
        self.assertEqual(core(()), ((), ()))
        self.assertEqual(core((2, 1, -1, -2)), ((), ()))
        for walk in walks_to_try(3) + [(1, 2, 3, -2, -1), (1, 1), (2, 1, 1, -2)]:
            walk = slow_straight(walk)
            lead, middle = core(walk)
            self.assertEqual(lead + middle + slow_back(lead), walk)
            if walk:
                self.assertTrue(len(middle) == 1 or len(middle) > 1 and middle[0] != -middle[-1])

    def test_root(self):
        self.assertEqual(root(()), ((), 0))
        self.assertEqual(root((3, -3)), ((), 0))
        self.assertEqual(root((1,) * 60), ((1,), 60))
        self.assertEqual(root((-1,) * 4), ((-1,), 4))
        self.assertEqual(root((2, 1, 3, 1, 3, -2)), ((2, 1, 3, -2), 2))
        rng = random.Random(4)
        for _ in range(100):
            walk = some_straight(2, rng.randrange(1, 6), rng)
            for times in range(1, 6):
                once, many = root(power(walk, times))
                self.assertEqual(slow_straight(once * many), power(walk, times))
                self.assertEqual(root(once), (once, 1))
                self.assertEqual(many % times, 0)

    def test_of_walks_that_are_not_straight(self):
        rng = random.Random(8)
        for _ in range(60):
            walk, other = some_walk(2, rng.randrange(12), rng), some_walk(2, rng.randrange(6), rng)
            for function in (core, root, least_turned):
                look_at_answer(self, function(slow_straight(walk)), function, walk)
            moved = slow_back(other) + walk + other
            look_at_answer(self, turned_onto(slow_straight(walk), slow_straight(moved)), turned_onto, walk, moved)
        look_at_answer(self, ((1,), 2), root, (1, 2, -2, 1))
        look_at_answer(self, (1,), turned_onto, (1, 2, 2, -2), (2, 3, -3, 1))

    def test_root_of_all_short_ones(self):
        roots = {}
        for walk in all_straight_to(2, 3):
            for times in range(1, 7):
                many = slow_straight(walk * times)
                roots[many] = max(roots.get(many, (0,)), (times, walk))
        for walk in all_straight_to(2, 3)[1:]:
            times, once = roots[walk]
            self.assertEqual(root(walk), (once, times))


class Turning(unittest.TestCase):
    def test_commute(self):
        walks = all_straight_to(2, 3)
        for one, other in itertools.product(walks, walks):
            alike = slow_straight(one + other) == slow_straight(other + one)
            look_at_answer(self, alike, commute, one, other)
        self.assertIs(commute((1, 2) * 30, (-2, -1) * 200), True)

    def test_turned(self):
        for walk in walks_to_try(5, 15):
            for other in walks_to_try(6, 15):
                look_at_answer(self, slow_straight(slow_back(other) + walk + other), turned, walk, other)

    def test_turned_onto_is_the_least(self):
        walks = all_straight_to(2, 3)
        for one in walks:
            onto = {}
            for way in all_straight_to(2, 3):
                onto.setdefault(slow_straight(slow_back(way) + one + way), way)
            for other in walks:
                # What turns a walk of at most 3 steps into another one has a least one of at most 3 steps.
                look_at_answer(self, onto.get(other), turned_onto, one, other)

    def test_turned_onto_of_long_ones(self):
        rng = random.Random(7)
        for _ in range(200):
            one, way = some_straight(2, rng.randrange(1, 8), rng), some_straight(2, rng.randrange(6), rng)
            one = power(one, rng.choice((1, 2, 3)))
            other = turned(one, way)
            least = turned_onto(one, other)
            self.assertEqual(turned(one, least), other)
            once = root(one)[0]
            tries = [behind(power(once, times), way) for times in range(-20, 21)]
            self.assertEqual(least, min(tries, key=slow_key))
            self.assertIsNone(turned_onto(one, behind(other, (3,))))
        self.assertIsNone(turned_onto((), (1,)))
        self.assertIsNone(turned_onto((1,), (-1,)))
        self.assertEqual(turned_onto((1, -1), ()), ())
        self.assertEqual(turned_onto((2, 1, -2), (3, 1, -3)), (2, -3))
        self.assertEqual(turned_onto((1, 1, 2), (1, 2, 1)), (1,))
        self.assertEqual(turned_onto((1, 1, 2), (2, 1, 1)), (-2,))

    def test_the_order_of_steps_decides(self):
        # Forward and backward around the core are of one length here.
        self.assertEqual(turned_onto((2, 1), (1, 2)), (-1,))
        self.assertEqual(turned_onto((1, -2), (-2, 1)), (1,))
        self.assertEqual(turned_onto((-2, 1), (1, -2)), (-1,))
        self.assertEqual(turned_onto((2, -1), (-1, 2)), (1,))

    def test_least_turned(self):
        for walk in all_straight_to(2, 4):
            turns = [slow_straight(slow_back(way) + walk + way) for way in all_straight_to(2, 4)]
            look_at_answer(self, min(turns, key=slow_key), least_turned, walk)
        self.assertEqual(least_turned(()), ())
        self.assertEqual(least_turned((3, -1, -3)), (-1,))
        self.assertEqual(least_turned((-4, 2, 4, -2, -2, 2)), (2, 4, -2, -4))
        self.assertEqual(least_turned((-1, 1, -2, 1)), (1, -2))


class WrongArguments(unittest.TestCase):
    def test_one_walk(self):
        for function in (straight, back, core, root, least_turned):
            look_at_refusals(self, function, ("walk", "walk of four", (1, 4)))

    def test_two_walks(self):
        for function in (behind, commute, turned_onto):
            look_at_refusals(self, function, ("one", "walk of four", (1,)), ("other", "walk of four", (4, 1)))
        look_at_refusals(self, turned, ("walk", "walk of four", (1,)), ("other", "walk of four", ()))

    def test_power(self):
        times = [21, -21, 10 ** 59, -10 ** 59, True, False]
        look_at_refusals(self, power, ("walk", "walk of four", (1, 4)), ("times", times, 20))


class Order(unittest.TestCase):
    def test_the_list_of_the_straight_walks_is_in_order(self):
        for letters in (1, 2, 3):
            walks = all_straight(letters, 3)
            self.assertEqual(walks, sorted(walks, key=slow_key))


if __name__ == "__main__":
    unittest.main()
