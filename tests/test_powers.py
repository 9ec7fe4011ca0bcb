"""[17]: powers that belong, and walkclubs/powers.py."""

import random
import unittest

from tests.helpers import (
    EVEN, HALF, NOTHING, WHOLE, all_straight_to, look_at_answer, look_at_lists, look_at_refusals, slow_back, slow_room,
    slow_steps, slow_straight, some_lists, some_straight, some_walk, some_web, web_of_turns,
)
from walkclubs.powers import exponents, greatest_power, is_rooted, least_power, power_walk
from walkclubs.webs import nothing, web_of, whole

TWELVE = some_web(3, 12, random.Random(71))
SIXTY = some_web(4, 60, random.Random(80))
RING = web_of(2, [(1,) * 60])
FIVE = web_of(1, [(1,) * 5])


def slow_times(walk, times):
    return walk * times if times >= 0 else slow_back(walk) * -times


def slow_power(web, walk):
    """By trying: the cosets of the powers that do not belong are rooms, as long as one is ever to belong."""
    powers = [times for times in range(1, len(web[1]) + 1) if slow_room(web, 0, walk * times) == 0]
    return powers[0] if powers else None


def slow_exponents(web, one, walk, other, most):
    """All exponents from -most to most that belong."""
    return [a for a in range(-most, most + 1) if slow_room(web, 0, one + slow_times(walk, a) + other) == 0]


def met_together(web, rooms):
    """All tuples of rooms to which walks lead from told ones at once, by taking steps until there are no more."""
    met, new = {rooms}, [rooms]
    while new:
        steps = [[tuple(slow_room(web, room, (step,)) for room in met_one) for step in slow_steps(web[0])]
                 for met_one in new]
        new = sorted({after for afters in steps for after in afters if None not in after} - met)
        met |= set(new)
    return met


def can_go_round(web, rooms):
    return rooms[1:] + rooms[:1] in met_together(web, rooms)


def small_webs(seed, many=40):
    rng = random.Random(seed)
    folded = [web_of(letters, walks) for letters in (1, 2, 3) for walks in some_lists(letters, many, seed + letters)]
    closed = [some_web(letters, count, rng) for letters in (2, 3) for count in (2, 3, 4, 5)]
    return [web for web in folded if len(web[1]) <= 5] + closed + [NOTHING, WHOLE, HALF, EVEN, FIVE]


class Examples(unittest.TestCase):
    def test_of_the_document(self):
        for expected, function, *arguments in [
            (2, least_power, EVEN, (1,)), (None, least_power, HALF, (1, 2)), ((1, 2), exponents, EVEN, (), (1,), (1,)),
            ((0, 0), exponents, HALF, (1,), (2,), (1,)), (None, exponents, HALF, (), (2,), (1,)),
            (2, greatest_power, HALF), (False, is_rooted, HALF),
        ]:
            look_at_answer(self, expected, function, *arguments)
        look_at_answer(self, 2, least_power, EVEN, power_walk(EVEN, 2))

    def test_by_name(self):
        look_at_answer(self, 2, least_power, walk=(1,), web=EVEN)
        look_at_answer(self, (1, 2), exponents, other=(1,), walk=(1,), one=(), web=EVEN)
        look_at_answer(self, (0, 0), exponents, other=(1,), walk=(2,), one=(1,), web=HALF)
        look_at_answer(self, 2, least_power, web=EVEN, walk=power_walk(times=2, web=EVEN))
        look_at_answer(self, 2, greatest_power, web=HALF)
        look_at_answer(self, False, is_rooted, web=HALF)


class LeastPower(unittest.TestCase):
    def test_by_trying(self):
        rng = random.Random(1)
        for web in small_webs(1):
            for walk in all_straight_to(web[0], 3):
                look_at_answer(self, slow_power(web, walk), least_power, web, walk)
            for _ in range(5):
                walk = some_walk(web[0], rng.randrange(8), rng)
                look_at_answer(self, slow_power(web, walk), least_power, web, walk)

    def test_edges(self):
        for web in (NOTHING, WHOLE, RING, SIXTY, nothing(1), nothing(4)):
            look_at_answer(self, 1, least_power, web, ())
            look_at_answer(self, 1, least_power, web, (1, -1))
            look_at_answer(self, 1, least_power, web, (1,) * 30 + (-1,) * 30)
        look_at_answer(self, None, least_power, NOTHING, (1,))
        look_at_answer(self, 60, least_power, RING, (1,))
        look_at_answer(self, 15, least_power, RING, (-1,) * 16)
        look_at_answer(self, 3, least_power, RING, (1,) * 400)
        look_at_answer(self, None, least_power, RING, (2,) + (1,) * 58 + (-2,))
        # Where a walk is turned, the times stay as they are, though the web is another one.
        turned = web_of(2, [(2, 2, 1) + (1,) * 39 + (-2, -2)])
        look_at_answer(self, 40, least_power, turned, (2, 2, 1, -2, -2))
        look_at_answer(self, None, least_power, turned, (2, 1, -2))
        look_at_answer(self, None, least_power, turned, (1,))

    def test_long_walks(self):
        rng = random.Random(2)
        for web in (TWELVE, SIXTY):
            for length in (60, 400):
                walk = some_straight(web[0], length, rng)
                self.assertLessEqual(slow_power(web, walk), len(web[1]))
                look_at_answer(self, slow_power(web, walk), least_power, web, walk)


class Exponents(unittest.TestCase):
    def look(self, web, one, walk, other, most):
        answer = exponents(web, one, walk, other)
        look_at_answer(self, answer, exponents, web, one, walk, other)
        found = slow_exponents(web, one, walk, other, most)
        case = (web, one, walk, other, answer)
        if answer is None:
            self.assertEqual(found, [], case)
        elif answer[1] == 0:
            self.assertEqual(found, [answer[0]], case)
        else:
            times, number = answer
            self.assertTrue(0 <= times < number, case)
            self.assertEqual(found, [a for a in range(-most, most + 1) if a % number == times], case)

    def test_by_trying(self):
        rng = random.Random(3)
        for web in small_webs(3, 25):
            for _ in range(8):
                one, walk, other = [some_walk(web[0], rng.randrange(5), rng) for _ in range(3)]
                self.look(web, one, walk, other, 16)
                # Walks between which some exponent belongs.
                power = slow_times(walk, rng.randrange(-6, 7))
                self.look(web, one, walk, slow_back(power) + slow_back(one), 24)

    def test_just_one(self):
        for web in (NOTHING, HALF, nothing(3), RING):
            for times in (-20, -1, 0, 1, 7, 20):
                # Outside of the web all places are passed but once.
                other = slow_times((2, 1), -times)
                look_at_answer(self, (times, 0), exponents, web, (), (2, 1), other)
                look_at_answer(self, (times, 0), exponents, web, (2,), (1, 2, 1), slow_times((1, 2, 1), -times) + (-2,))
        look_at_answer(self, (40, 0), exponents, NOTHING, (1,) * 20, (-1, -1), (1,) * 60)
        look_at_answer(self, (-200, 0), exponents, NOTHING, (), (1,), (1,) * 200)
        look_at_answer(self, (400, 0), exponents, NOTHING, (), (1,), (-1,) * 400)
        look_at_answer(self, None, exponents, NOTHING, (), (1, 1), (-1,) * 399)

    def test_along_the_rooms_and_out(self):
        # A long row of rooms: the one walk goes into the web, along all rooms, and out of it.
        row = web_of(2, [(1,) * 40 + (2,) + (-1,) * 40])
        look_at_answer(self, (40, 0), exponents, row, (), (1,), (2,) + (-1,) * 40)
        look_at_answer(self, (100, 0), exponents, row, (-1,) * 30, (1,), (-1,) * 70)
        look_at_answer(self, (-100, 0), exponents, row, (1,) * 70, (1,), (1,) * 30)
        look_at_answer(self, None, exponents, row, (-1,) * 30, (1,), (2,) + (-1,) * 70)
        look_at_answer(self, None, exponents, row, (-1,) * 30 + (2,), (1,), (-1,) * 70)
        look_at_answer(self, (100, 0), exponents, row, (-1,) * 30 + (-2,), (2, 1, -2), (2,) + (-1,) * 70)

    def test_all_that_leave_a_rest(self):
        look_at_answer(self, (17, 60), exponents, RING, (1,) * 43, (1,), ())
        look_at_answer(self, (43, 60), exponents, RING, (1,) * 43, (-1,), ())
        look_at_answer(self, (0, 60), exponents, RING, (1,) * 43, (1,), (1,) * 17)
        look_at_answer(self, (1, 15), exponents, RING, (), (1,) * 4, (-1,) * 64)
        look_at_answer(self, None, exponents, RING, (), (1,) * 4, (1,))
        look_at_answer(self, (0, 1), exponents, WHOLE, (1, 2), (1,), (2, 1))
        look_at_answer(self, (0, 1), exponents, SIXTY, (1, 2), (3, -3), (-2, -1))

    def test_the_walk_of_no_steps(self):
        for web in (NOTHING, HALF, RING, whole(2), EVEN):
            for walk in ((), (1, -1), (1, 2, -2, -1)):
                look_at_answer(self, (0, 1), exponents, web, (1, 2), walk, (-2, -1))
                look_at_answer(self, (0, 1), exponents, web, (), walk, ())
        look_at_answer(self, None, exponents, HALF, (1,), (2, -2), ())
        look_at_answer(self, None, exponents, NOTHING, (), (), (2,))

    def test_of_great_webs(self):
        rng = random.Random(4)
        for web in (TWELVE, RING, SIXTY):
            for _ in range(3):
                one, walk, other = [some_walk(web[0], rng.randrange(61), rng) for _ in range(3)]
                self.look(web, one, walk, other, 12)
                self.look(web, one[:9], walk[:4], other[:5], 70)
            self.look(web, some_straight(web[0], 400, rng), some_straight(web[0], 7, rng), (), 12)
            self.look(web, (), some_straight(web[0], 400, rng), (), 3)

    def test_e1(self):
        # Two exponents that do, and all that differ from them by multiples of their difference.
        rng = random.Random(5)
        for web in (TWELVE, SIXTY, RING):
            for _ in range(10):
                one, walk = some_walk(web[0], 6, rng), some_walk(web[0], 5, rng)
                answer = exponents(web, one, walk, slow_back(one))
                if answer is not None and answer[1] > 0:
                    times, number = answer
                    for turn in (-3, -1, 2, 5):
                        power = slow_times(walk, times + turn * number)
                        self.assertEqual(slow_room(web, 0, one + power + slow_back(one)), 0)


class PowerWalks(unittest.TestCase):
    def test_of_small_webs(self):
        for web in small_webs(6, 30):
            greatest = 1
            for times in range(1, 8):
                walk = power_walk(web, times)
                rooms = paths(web, times)
                if walk is None:
                    self.assertFalse(any(can_go_round(web, path) for path in rooms), (web, times))
                else:
                    greatest = times
                    self.assertEqual(slow_power(web, walk), times, (web, walk))
                    self.assertEqual(slow_straight(walk), walk)
                    look_at_lists(self, walk, [web])
            look_at_answer(self, greatest, greatest_power, web)
            look_at_answer(self, greatest == 1, is_rooted, web)

    def test_all_walks_are_within(self):
        # No walk of a few steps has a greater least power, and each least power is found.
        for web in small_webs(7, 10):
            powers = {slow_power(web, walk) for walk in all_straight_to(web[0], 4 if web[0] < 3 else 3)} - {None}
            self.assertLessEqual(max(powers), greatest_power(web))
            for times in powers:
                self.assertEqual(slow_power(web, power_walk(web, times)), times)

    def test_edges(self):
        for web in (NOTHING, WHOLE, nothing(1), whole(3), web_of(2, [(1, 2), (2, 1, 1)])):
            look_at_answer(self, 1, greatest_power, web)
            look_at_answer(self, True, is_rooted, web)
            self.assertEqual(least_power(web, power_walk(web, 1)), 1)
            for times in (2, 5, 6, 10 ** 59):
                look_at_answer(self, None, power_walk, web, times)
        look_at_answer(self, 5, greatest_power, FIVE)
        for times in (2, 3, 4):
            look_at_answer(self, None, power_walk, FIVE, times)
        self.assertEqual(least_power(FIVE, power_walk(FIVE, 5)), 5)
        # Far from home a ring of three rooms.
        far = web_of(2, [(1, 1, 2, 2, 2, -1, -1)])
        look_at_answer(self, 3, greatest_power, far)
        self.assertEqual(slow_power(far, power_walk(far, 3)), 3)
        look_at_answer(self, None, power_walk, far, 2)
        for count in (2, 3, 4, 5):
            turns = [[1, 0] + list(range(2, count)), [*range(1, count), 0], list(range(count))]
            web = web_of_turns(3, turns)
            look_at_answer(self, count, greatest_power, web)
            for times in range(1, count + 1):
                self.assertEqual(slow_power(web, power_walk(web, times)), times)


def paths(web, many):
    """All tuples of so many rooms, none of them twice."""
    found = [()]
    for _ in range(many):
        found = [path + (room,) for path in found for room in range(len(web[1])) if room not in path]
    return found


class WrongArguments(unittest.TestCase):
    def test_webs_and_walks(self):
        look_at_refusals(self, least_power, ("web", "web", HALF), ("walk", "walk", (1, 2)))
        look_at_refusals(
            self, exponents, ("web", "web", HALF), ("one", "walk", ()), ("walk", "walk", (1, 2)),
            ("other", "walk", (2,)),
        )

    def test_webs_and_times(self):
        look_at_refusals(self, power_walk, ("web", "web", HALF), ("times", [0, -1, -10 ** 59, True, False], 2))
        for function in (greatest_power, is_rooted):
            look_at_refusals(self, function, ("web", "web", HALF))


if __name__ == "__main__":
    unittest.main()
