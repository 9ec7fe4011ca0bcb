"""[6], [7], [12]: webs, first ways, open doors, clubs, and walkclubs/webs.py."""

import itertools
import random
import unittest

from tests.helpers import (
    BAD_WEBS, EVEN, HALF, NOTHING, ODD_OBJECTS, WHOLE, all_straight_to, look_at_answer, look_at_refusal,
    look_at_refusals, slow_back, slow_key, slow_room, slow_straight, slow_web, some_lists, some_straight, some_walk,
    some_web, web_of_turns,
)
from walkclubs.errors import InvalidWalk, InvalidWeb, Unlike
from walkclubs.webs import (
    belongs, contains, first_way, is_web, least_loop, nothing, rank, room_after, rooms, steps_gone, web_of, whole,
)

# A ring of sixty rooms with open doors, and one of sixty rooms in which a second letter turns two rooms at a time.
RING = web_of(2, [(1,) * 60])
SIXTY = some_web(2, 60, random.Random(60))
OTHER_SIXTY = some_web(4, 60, random.Random(61))
TAIL = web_of(3, [(1, 2, 3, 3, -2, -1)])
WEBS = [NOTHING, WHOLE, HALF, EVEN, (1, ((-1,),)), (1, ((0,),)), nothing(4), whole(4), TAIL]


def webs_to_try(seed, many=25):
    rng = random.Random(seed)
    folded = [web_of(rng.choice((2, 3)), walks) for walks in some_lists(2, many, seed)]
    return WEBS + folded + [some_web(2, rng.randrange(1, 8), rng) for _ in range(5)]


class Examples(unittest.TestCase):
    def test_of_the_document(self):
        look_at_answer(self, HALF, web_of, 2, [(1, 1), (2,)])
        for expected, function, *arguments in [
            (2, rank, HALF), (True, belongs, HALF, (1, 1, 2)), (False, belongs, HALF, (1, 2, 1)),
            (1, room_after, HALF, 0, (-1,)), (1, steps_gone, HALF, (1, 2)), ((1,), first_way, HALF, 1),
            ((1, 1), least_loop, HALF, 1), (True, contains, HALF, web_of(2, [(1, 1)])), (WHOLE, whole, 2),
        ]:
            look_at_answer(self, expected, function, *arguments)

    def test_by_name(self):
        look_at_answer(self, True, is_web, value=HALF)
        look_at_answer(self, HALF, web_of, walks=[(1, 1), (2,)], letters=2)
        look_at_answer(self, WHOLE, whole, letters=2)
        look_at_answer(self, NOTHING, nothing, letters=2)
        look_at_answer(self, 2, rooms, web=HALF)
        look_at_answer(self, 2, rank, web=HALF)
        look_at_answer(self, True, belongs, walk=(2,), web=HALF)
        look_at_answer(self, 0, room_after, walk=(1,), room=1, web=HALF)
        look_at_answer(self, 1, steps_gone, walk=(1, 2), web=HALF)
        look_at_answer(self, (1,), first_way, room=1, web=HALF)
        look_at_answer(self, (1, 1), least_loop, room=1, web=HALF)
        look_at_answer(self, False, contains, other=WHOLE, web=HALF)


class IsWeb(unittest.TestCase):
    def test_any_objects(self):
        for value in BAD_WEBS + ODD_OBJECTS:
            look_at_answer(self, False, is_web, value)
        for value in webs_to_try(1) + [RING, SIXTY, OTHER_SIXTY]:
            look_at_answer(self, True, is_web, value)
        self.assertIs(is_web(object()), False)

    def test_all_small_tuples(self):
        webs = {web_of(2, walks) for walks in itertools.combinations(all_straight_to(2, 5), 1)}
        webs |= {web_of(2, list(walks)) for walks in itertools.combinations(all_straight_to(2, 3), 2)}
        webs |= {web_of(2, list(walks)) for walks in itertools.combinations(all_straight_to(2, 3)[1:], 3)}
        webs |= {web_of_turns(2, turns) for turns in itertools.product(itertools.permutations(range(2)), repeat=2)}
        small = {web for web in webs if len(web[1]) <= 2}
        for count in (1, 2):
            rows = list(itertools.product(range(-1, count), repeat=2))
            for web in itertools.product([2], itertools.product(rows, repeat=count)):
                self.assertIs(is_web(web), web in small, web)

    def test_other_numberings_are_none(self):
        rng = random.Random(3)
        for web in webs_to_try(3):
            count = len(web[1])
            for _ in range(5):
                order = [0] + rng.sample(range(1, count), count - 1)
                rows = [tuple(order[after] if after >= 0 else -1 for after in row) for row in web[1]]
                renamed = (web[0], tuple(rows[order.index(room)] for room in range(count)))
                self.assertIs(is_web(renamed), renamed == web)


class WebOf(unittest.TestCase):
    def test_folded_slowly(self):
        for letters in (2, 3, 4):
            for walks in some_lists(letters, 60, letters):
                look_at_answer(self, slow_web(letters, walks), web_of, letters, walks)

    def test_edges(self):
        for letters in (1, 2, 3, 4):
            none = (letters, ((-1,) * letters,))
            look_at_answer(self, none, web_of, letters, [])
            look_at_answer(self, none, web_of, letters, [(), (1, -1), (-1, 1, -1, 1)])
            look_at_answer(self, none, nothing, letters)
            look_at_answer(self, (letters, ((0,) * letters,)), whole, letters)
            look_at_answer(self, (letters, ((0,) * letters,)), web_of, letters, [(-a,) for a in range(1, letters + 1)])
        self.assertEqual(web_of(1, [(1,) * 60, (-1,) * 36]), web_of(1, [(-1,) * 12]))
        self.assertEqual(web_of(1, [(1, 1, 1)]), (1, ((1,), (2,), (0,))))
        self.assertEqual(web_of(1, [(1, 1, 1, 1)]), (1, ((1,), (3,), (0,), (2,))))
        self.assertEqual(len(RING[1]), 60)
        self.assertEqual(web_of(2, [(1, 2, -1)]), (2, ((1, -1), (-1, 1))))
        self.assertEqual(web_of(2, [(1, -1, 2)]), (2, ((-1, 0),)))

    def test_whatever_sequence(self):
        rng = random.Random(5)
        for walks in some_lists(3, 40, 5):
            web = web_of(3, walks)
            mixed = rng.sample(walks, len(walks)) + [slow_back(walk) for walk in walks]
            self.assertEqual(web_of(3, mixed), web)
            if walks:
                more = walks + [walks[0] + walks[-1] + slow_back(rng.choice(walks))]
                self.assertEqual(web_of(3, more), web)

    def test_eight_walks_of_sixty_steps(self):
        rng = random.Random(6)
        walks = [some_straight(4, 60, rng) for _ in range(8)]
        web = web_of(4, walks)
        self.assertIs(is_web(web), True)
        self.assertEqual(rank(web), 8)
        for walk in walks:
            self.assertIs(belongs(web, walk), True)
        self.assertEqual(web_of(4, walks[::-1]), web)

    def test_the_club_of_what_keeps_a_room(self):
        # All walks that lead a room to itself are made by one walk for each way that is off the first ways.
        rng = random.Random(7)
        for letters, count in ((2, 5), (3, 7), (2, 60), (4, 60)):
            turns = [rng.sample(range(count), count) for _ in range(letters)]
            web = web_of_turns(letters, turns)
            firsts = [first_way(web, room) for room in range(len(web[1]))]
            walks = [
                firsts[room] + (letter,) + slow_back(firsts[after])
                for room, row in enumerate(web[1]) for letter, after in enumerate(row, 1)
            ]
            self.assertEqual(web_of(letters, walks), web)
            self.assertEqual(rank(web), len(web[1]) * (letters - 1) + 1)

    def test_returned_walks_and_lists(self):
        walks = [(1, 2) * 200, (2, -1) * 200, (1,) * 399 + (2,)]
        self.assertEqual(web_of(2, walks * 60), web_of(2, walks))


class Clubs(unittest.TestCase):
    def test_just_the_walks_of_the_club_belong(self):
        for walks in some_lists(2, 25, 8, longest=3, most=3):
            web = web_of(2, walks)
            steps = walks + [slow_back(walk) for walk in walks]
            made, new = {()}, {()}
            while new:
                longer = {slow_straight(a + b) for a in new for b in steps}
                new = {walk for walk in longer if len(walk) <= 7} - made
                made |= new
            for walk in all_straight_to(2, 4):
                self.assertIs(belongs(web, walk), walk in made, (walks, walk))


class Rooms(unittest.TestCase):
    def test_walking(self):
        rng = random.Random(9)
        for web in webs_to_try(9) + [RING, SIXTY, OTHER_SIXTY]:
            for _ in range(12):
                walk = some_walk(web[0], rng.randrange(9), rng)
                room = rng.randrange(len(web[1]))
                end = slow_room(web, 0, walk)
                look_at_answer(self, end == 0, belongs, web, walk)
                look_at_answer(self, slow_room(web, room, walk), room_after, web, room, walk)
                steps = slow_straight(walk)
                gone = max(n for n in range(len(steps) + 1) if slow_room(web, 0, steps[:n]) is not None)
                look_at_answer(self, gone, steps_gone, web, walk)

    def test_straightened_ahead(self):
        # What is left out again goes through no door.
        self.assertEqual(room_after(NOTHING, 0, (1, 2, -2, -1)), 0)
        self.assertEqual(steps_gone(HALF, (1, 2, -2, 1)), 2)
        self.assertIs(belongs(HALF, (1, 2, -2, 1)), True)
        self.assertIs(belongs(NOTHING, ()), True)
        self.assertIsNone(room_after(HALF, 1, (2,)))
        self.assertIsNone(room_after(HALF, 0, (2, 2, 1, -2)))
        self.assertEqual(steps_gone(RING, (1,) * 400), 400)
        self.assertEqual(steps_gone(RING, (1,) * 59 + (2,) * 341), 59)

    def test_counts(self):
        for web in webs_to_try(10) + [RING, SIXTY, OTHER_SIXTY]:
            ways = sum(after >= 0 for row in web[1] for after in row)
            look_at_answer(self, len(web[1]), rooms, web)
            look_at_answer(self, ways - len(web[1]) + 1, rank, web)
        self.assertEqual([rank(NOTHING), rank(WHOLE), rank(whole(4)), rank(nothing(1)), rank(RING)], [0, 2, 4, 0, 1])

    def test_first_ways(self):
        for web in webs_to_try(11):
            firsts = {}
            for walk in all_straight_to(web[0], 3):
                room = slow_room(web, 0, walk)
                if room is not None:
                    firsts.setdefault(room, walk)
            for room, walk in firsts.items():
                look_at_answer(self, walk, first_way, web, room)
        for web in (RING, SIXTY, OTHER_SIXTY):
            walks = [first_way(web, room) for room in range(60)]
            self.assertEqual(walks, sorted(walks, key=slow_key))
            self.assertEqual([slow_room(web, 0, walk) for walk in walks], list(range(60)))
        self.assertEqual(first_way(RING, 59), (1,) * 30)
        self.assertEqual(first_way(RING, 58), (-1,) * 29)

    def test_least_loops(self):
        for web in webs_to_try(12):
            for room in range(len(web[1])):
                loops = (walk for walk in all_straight_to(web[0], 4)[1:] if slow_room(web, room, walk) == room)
                least = next(loops, None)
                loop = least_loop(web, room)
                if least is not None:
                    self.assertEqual(loop, least)
                elif rank(web) == 0:
                    self.assertIsNone(loop)
                else:
                    self.assertTrue(len(loop) > 4 and slow_straight(loop) == loop)
                    self.assertEqual(slow_room(web, room, loop), room)
        self.assertIsNone(least_loop(NOTHING, 0))
        self.assertEqual(least_loop((1, ((0,),)), 0), (1,))
        self.assertEqual(least_loop(RING, 7), (1,) * 60)
        self.assertEqual(least_loop(TAIL, 0), (1, 2, 3, 3, -2, -1))
        self.assertEqual(least_loop(TAIL, 1), (2, 3, 3, -2))
        self.assertEqual(least_loop(web_of(2, [(2, -1, 2, 1)]), 0), (-1, -2, 1, -2))


class Contains(unittest.TestCase):
    def test_by_the_walks(self):
        lists = [walks for walks in some_lists(2, 30, 13, longest=4)]
        for walks in lists:
            web = web_of(2, walks)
            for others in lists + [walks[:1], walks + [(1, 2)], [walk + walk for walk in walks]]:
                within = all(slow_room(web, 0, walk) == 0 for walk in others)
                look_at_answer(self, within, contains, web, web_of(2, others))

    def test_edges(self):
        self.assertIs(contains(NOTHING, NOTHING), True)
        self.assertIs(contains(NOTHING, WHOLE), False)
        self.assertIs(contains(SIXTY, web_of(2, [least_loop(SIXTY, 0)])), True)
        self.assertIs(contains(web_of(2, [least_loop(SIXTY, 0)]), SIXTY), False)
        self.assertIs(contains(RING, web_of(2, [(1,) * 120])), True)
        self.assertIs(contains(web_of(2, [(1, 1)]), web_of(2, [(1, 2, -1)])), False)
        self.assertIs(contains(HALF, web_of(2, [(1, 1), (1, 2, -1)])), False)
        self.assertIs(contains(HALF, web_of(2, [(1, 2, 2, 1)])), False)

    def test_unlike(self):
        for web, other in [(HALF, (1, ((0,),))), (whole(1), HALF), (nothing(4), nothing(3))]:
            look_at_refusal(self, Unlike, other[0], contains, [web, other])
            look_at_refusal(self, Unlike, other[0], contains, [web, other], ["web", "other"])
        look_at_refusal(self, InvalidWeb, (1, ((2,),)), contains, [HALF, (1, ((2,),))])


class WrongArguments(unittest.TestCase):
    def test_letters(self):
        for function in (whole, nothing):
            look_at_refusals(self, function, ("letters", "letters", 4))
        look_at_refusals(self, web_of, ("letters", "letters", 2), ("walks", "walks", [(1,), (2, -2)]))

    def test_walks_of_other_letters(self):
        for letters in (1, 2, 3):
            far = (letters + 1, -letters - 1)
            look_at_refusal(self, InvalidWalk, far, web_of, [letters, [(1,), far, (0,)]])
            look_at_refusal(self, InvalidWalk, far, belongs, [whole(letters), far])

    def test_webs(self):
        for function in (rooms, rank):
            look_at_refusals(self, function, ("web", "web", HALF))
        look_at_refusals(self, contains, ("web", "web", HALF), ("other", "web", EVEN))

    def test_webs_and_rooms(self):
        room = ("room", [-1, 2, 60, 10 ** 59, -10 ** 59, True, False], 1)
        look_at_refusals(self, first_way, ("web", "web", HALF), room)
        look_at_refusals(self, least_loop, ("web", "web", HALF), room)
        look_at_refusals(self, room_after, ("web", "web", HALF), room, ("walk", "walk", (1, 2)))

    def test_webs_and_walks(self):
        for function in (belongs, steps_gone):
            look_at_refusals(self, function, ("web", "web", HALF), ("walk", "walk", (1, 2)))


if __name__ == "__main__":
    unittest.main()
