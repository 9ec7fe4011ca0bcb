"""[7], [15]: cosets, and walkclubs/cosets.py."""

import random
import unittest

from tests.helpers import (
    EVEN, HALF, NOTHING, WHOLE, all_straight, all_straight_to, look_at_answer, look_at_refusal, look_at_refusals,
    slow_back, slow_key, slow_room, slow_steps, slow_straight, some_lists, some_straight, some_walk, some_web,
)
from walkclubs.bases import basis
from walkclubs.cosets import (
    coset_number, coset_walk, cosets_of_length, index, index_within, nth_coset, open_door, same_coset,
)
from walkclubs.errors import InvalidWeb, NotWithin, Unlike
from walkclubs.orders import how_many, nth_walk
from walkclubs.webs import nothing, web_of, whole

SIXTY = some_web(4, 60, random.Random(80))
RING = web_of(2, [(1,) * 60])
WEBS = [NOTHING, WHOLE, HALF, EVEN, (1, ((-1,),)), (1, ((0,),)), web_of(2, [(1, 2, 2, -1)]), web_of(1, [(1,) * 7])]


def webs_to_try(seed, many=20):
    rng = random.Random(seed)
    folded = [web_of(2, walks) for walks in some_lists(2, many, seed)]
    return WEBS + folded + [some_web(2, rng.randrange(1, 8), rng) for _ in range(6)]


def slow_alike(web, one, other):
    """Whether two walks are in one coset: the one with the other one turned back behind it belongs."""
    return slow_room(web, 0, one + slow_back(other)) == 0


def least_walks(web, length):
    """The least walks of all cosets, up to a length, in their order."""
    found = []
    for walk in all_straight_to(web[0], length):
        if not any(slow_alike(web, walk, other) for other in found):
            found.append(walk)
    return found


class Examples(unittest.TestCase):
    def test_of_the_document(self):
        for expected, function, *arguments in [
            (None, index, HALF), ((1, 2), open_door, HALF), ((1,), coset_walk, HALF, (2, 1)),
            (1, cosets_of_length, HALF, 0), (1, cosets_of_length, HALF, 1), (2, cosets_of_length, HALF, 2),
            (6, cosets_of_length, HALF, 3), ((1, 2), nth_coset, HALF, 2), (2, coset_number, HALF, (-1, 2)),
            (2, index, EVEN), (None, index_within, EVEN, HALF),
        ]:
            look_at_answer(self, expected, function, *arguments)

    def test_by_name(self):
        look_at_answer(self, 2, index, web=EVEN)
        look_at_answer(self, (1, 2), open_door, web=HALF)
        look_at_answer(self, (1,), coset_walk, walk=(2, 1), web=HALF)
        look_at_answer(self, True, same_coset, other=(-1,), one=(1,), web=HALF)
        look_at_answer(self, 6, cosets_of_length, length=3, web=HALF)
        look_at_answer(self, (1, 2), nth_coset, number=2, web=HALF)
        look_at_answer(self, 2, coset_number, walk=(-1, 2), web=HALF)
        look_at_answer(self, 2, index_within, other=EVEN, web=WHOLE)


class Doors(unittest.TestCase):
    def test_index_and_open_door(self):
        for web in webs_to_try(1) + [SIXTY, RING]:
            doors = [
                (room, step) for room in range(len(web[1])) for step in slow_steps(web[0])
                if slow_room(web, room, (step,)) is None
            ]
            look_at_answer(self, doors[0] if doors else None, open_door, web)
            look_at_answer(self, None if doors else len(web[1]), index, web)
        self.assertEqual([index(SIXTY), index(whole(4)), index(nothing(1)), index(RING)], [60, 1, None, None])
        self.assertEqual([open_door(nothing(3)), open_door(RING), open_door(web_of(2, [(1,), (2, 1, -2)]))],
                         [(0, 1), (0, 2), (0, -2)])


class Cosets(unittest.TestCase):
    def test_least_walks(self):
        for web in webs_to_try(2):
            length = 4 if web[0] == 2 else 8
            walks = least_walks(web, length)
            for number, walk in enumerate(walks):
                look_at_answer(self, walk, nth_coset, web, number)
                look_at_answer(self, number, coset_number, web, walk)
            for size in range(length + 1):
                look_at_answer(self, sum(len(walk) == size for walk in walks), cosets_of_length, web, size)
            for walk in all_straight(web[0], 3):
                least = next(other for other in walks if slow_alike(web, walk, other))
                look_at_answer(self, least, coset_walk, web, walk)
                look_at_answer(self, walks.index(least), coset_number, web, walk)

    def test_same_coset(self):
        rng = random.Random(3)
        for web in webs_to_try(3) + [SIXTY, RING]:
            for _ in range(20):
                one, other = (some_walk(web[0], rng.randrange(7), rng) for _ in range(2))
                look_at_answer(self, slow_alike(web, one, other), same_coset, web, one, other)
                look_at_answer(self, coset_walk(web, slow_straight(one)), coset_walk, web, one)
                member = rng.choice([()] + basis(web))
                look_at_answer(self, True, same_coset, web, member + one, one)
                look_at_answer(self, coset_number(web, one), coset_number, web, member + one)

    def test_edges(self):
        look_at_answer(self, (), coset_walk, HALF, (1, 2, -2, -1))
        look_at_answer(self, (), coset_walk, WHOLE, (1, 2, 1))
        look_at_answer(self, 0, coset_number, WHOLE, (1, 2, 1))
        look_at_answer(self, True, same_coset, HALF, (1, -1), (2, 2))
        self.assertEqual([cosets_of_length(WHOLE, length) for length in (0, 1, 100)], [1, 0, 0])
        self.assertEqual([nth_coset(WHOLE, number) for number in (0, 1, 10 ** 60 - 1)], [(), None, None])
        self.assertEqual([nth_coset(EVEN, number) for number in (0, 1, 2)], [(), (1,), None])
        self.assertEqual([nth_coset((1, ((-1,),)), number) for number in (0, 1, 2, 799, 800)],
                         [(), (1,), (-1,), (1,) * 400, (-1,) * 400])
        self.assertEqual([cosets_of_length((1, ((-1,),)), length) for length in (0, 1, 100)], [1, 2, 2])
        self.assertEqual(sum(cosets_of_length(SIXTY, length) for length in range(61)), 60)
        self.assertEqual([nth_coset(SIXTY, 59) is None, nth_coset(SIXTY, 60) is None], [False, True])

    def test_beside_nothing_are_all_walks(self):
        for letters in (2, 4):
            for length in (0, 1, 100):
                self.assertEqual(cosets_of_length(nothing(letters), length), how_many(letters, length))
            for number in (0, 1, 17, 10 ** 60 - 1):
                self.assertEqual(nth_coset(nothing(letters), number), nth_walk(letters, number))

    def test_great_numbers(self):
        rng = random.Random(4)
        for web in (HALF, RING, web_of(4, basis(SIXTY)[:100]), web_of(3, [(1, 2, 3) * 20, (3, 3, 2)])):
            for number in [10 ** 60 - 1, 10 ** 59] + [rng.randrange(10 ** 60) for _ in range(5)]:
                walk = nth_coset(web, number)
                self.assertEqual(coset_walk(web, walk), walk)
                self.assertEqual(coset_number(web, walk), number)
                self.assertLess(slow_key(walk), slow_key(nth_coset(web, number + 1)))
            walk = some_straight(web[0], 400, rng)
            self.assertEqual(nth_coset(web, coset_number(web, walk)), coset_walk(web, walk))


class IndexWithin(unittest.TestCase):
    def test_of_closed_webs(self):
        rng = random.Random(5)
        for web in [some_web(2, count, rng) for count in (1, 2, 3, 4, 5)]:
            look_at_answer(self, len(web[1]), index_within, WHOLE, web)
            for other in [some_web(2, count, rng) for count in (1, 2, 3, 4, 6, 8)]:
                if all(slow_room(web, 0, walk) == 0 for walk in basis(other)):
                    look_at_answer(self, len(other[1]) // len(web[1]), index_within, web, other)
                else:
                    look_at_refusal(self, NotWithin, other, index_within, [web, other])
        look_at_answer(self, 60, index_within, whole(4), SIXTY)
        look_at_answer(self, 1, index_within, SIXTY, SIXTY)

    def test_of_a_club_with_a_lead(self):
        # The rooms of the other web alone do not tell: what leads home is there only once.
        for times in range(1, 7):
            other = web_of(2, [(1,) + (2,) * times + (-1,)])
            look_at_answer(self, times, index_within, web_of(2, [(1, 2, -1)]), other)
        web = web_of(3, [(3, 1, -3), (3, 2, -3)])
        even = web_of(3, [(3, 1, 1, -3), (3, 1, 2, -1, -3), (3, 2, -3)])
        look_at_answer(self, 2, index_within, web, even)
        look_at_answer(self, None, index_within, web, web_of(3, [(3, 1, 1, -3), (3, 2, -3)]))
        look_at_answer(self, 3, index_within, web_of(2, [(1, 1)]), web_of(2, [(1,) * 6]))

    def test_written_by_the_basis(self):
        # A club of finite index in the club of a basis, put from letters into the walks of the basis.
        rng = random.Random(6)
        for web in webs_to_try(6):
            walks = basis(web)
            if len(walks) == 2:
                for count in (1, 2, 3, 5):
                    inner = some_web(2, count, rng)
                    put = [self.put(walks, walk) for walk in basis(inner)]
                    look_at_answer(self, count, index_within, web, web_of(web[0], put))
                    look_at_answer(self, None, index_within, web, web_of(web[0], put[:-1]))

    def put(self, walks, writing):
        parts = [walks[number - 1] if number > 0 else slow_back(walks[-number - 1]) for number in writing]
        return slow_straight(sum(parts, ()))

    def test_edges(self):
        look_at_answer(self, 1, index_within, NOTHING, NOTHING)
        look_at_answer(self, None, index_within, WHOLE, NOTHING)
        look_at_answer(self, None, index_within, RING, NOTHING)
        look_at_answer(self, 1, index_within, RING, RING)
        look_at_refusal(self, NotWithin, WHOLE, index_within, [NOTHING, WHOLE])
        look_at_refusal(self, NotWithin, EVEN, index_within, [HALF, EVEN])
        look_at_refusal(self, NotWithin, RING, index_within, [web_of(2, [(1,) * 7]), RING], ["web", "other"])


class WrongArguments(unittest.TestCase):
    def test_webs(self):
        for function in (index, open_door):
            look_at_refusals(self, function, ("web", "web", HALF))
        look_at_refusals(self, index_within, ("web", "web", EVEN), ("other", "web", HALF))

    def test_webs_and_walks(self):
        for function in (coset_walk, coset_number):
            look_at_refusals(self, function, ("web", "web", HALF), ("walk", "walk", (1, 2)))
        look_at_refusals(self, same_coset, ("web", "web", HALF), ("one", "walk", (1, 2)), ("other", "walk", ()))

    def test_webs_and_numbers(self):
        numbers = [-1, -10 ** 59, True, False]
        look_at_refusals(self, cosets_of_length, ("web", "web", HALF), ("length", numbers, 3))
        look_at_refusals(self, nth_coset, ("web", "web", EVEN), ("number", numbers, 3))

    def test_two_webs(self):
        look_at_refusal(self, Unlike, 1, index_within, [WHOLE, whole(1)])
        look_at_refusal(self, Unlike, 3, index_within, [NOTHING, whole(3)], ["web", "other"])
        look_at_refusal(self, InvalidWeb, None, index_within, [WHOLE, None])


if __name__ == "__main__":
    unittest.main()
