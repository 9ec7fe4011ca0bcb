"""[35]: clubs that are turned, and walkclubs/turned.py."""

import random
import unittest

from tests.helpers import (
    EVEN, HALF, NOTHING, WHOLE, all_straight_to, look_at_answer, look_at_refusal, look_at_refusals, slow_back,
    slow_key, slow_steps, slow_straight, slow_web, some_straight, some_walk, some_web, turned_by, webs_with,
)
from walkclubs.bases import basis
from walkclubs.cosets import coset_walk, index
from walkclubs.errors import InvalidWeb, Unlike
from walkclubs.meets import meet
from walkclubs.turned import keeping, keeping_index, kept_by_all, leads_into, turned
from walkclubs.webs import belongs, contains, first_way, is_web, nothing, rooms, web_of, whole

TWELVE = some_web(2, 12, random.Random(70))
SIXTY = some_web(4, 60, random.Random(80))
RING = web_of(2, [(1,) * 60])
TWOS = (2, ((1, 1), (0, 0)))
# Home apart from the rooms of which straight walks go round.
APART = web_of(2, [(1, 2, 2, -1), (1, 1, 1, -1)])
# All walks along the letter 1, and all turns of three things.
THREES = (2, ((1, 3), (2, 4), (0, 5), (5, 0), (3, 1), (4, 2)))


def webs_to_try(letters, seed, many=10):
    own = [HALF, EVEN, TWOS, APART, THREES, web_of(2, [(1, 2) * 3]), web_of(2, [(2, 1, 1, -2)])]
    return webs_with(letters, seed, many) + (own if letters == 2 else [])


def depth(web):
    return max(len(first_way(web, room)) for room in range(rooms(web)))


def slow_keeping(web):
    """All walks that keep a club, of those of which one is in each coset that has some: two first ways are as long."""
    most = min(2 * depth(web), {1: 20, 2: 6, 3: 4, 4: 3}[web[0]])
    return most >= 2 * depth(web), [walk for walk in all_straight_to(web[0], most) if turned_by(web, walk) == web]


class Examples(unittest.TestCase):
    def test_of_the_document(self):
        for expected, function, *arguments in [
            ((2, ((1, -1), (0, 1))), turned, HALF, (1,)), ((1,), leads_into, HALF, turned(HALF, (1,))),
            (HALF, keeping, HALF), ((2, ((0, 0),)), keeping, EVEN), (2, keeping_index, EVEN), (True, kept_by_all, EVEN),
        ]:
            look_at_answer(self, expected, function, *arguments)

    def test_by_name(self):
        look_at_answer(self, (2, ((1, -1), (0, 1))), turned, walk=(1,), web=HALF)
        look_at_answer(self, (1,), leads_into, other=(2, ((1, -1), (0, 1))), one=HALF)
        look_at_answer(self, (1,), leads_into, one=(2, ((1, -1), (0, 1))), other=HALF)
        look_at_answer(self, WHOLE, keeping, web=EVEN)
        look_at_answer(self, 2, keeping_index, web=EVEN)
        look_at_answer(self, True, kept_by_all, web=EVEN)


class Turned(unittest.TestCase):
    def test_walks_put_around_those_of_a_basis(self):
        rng = random.Random(1)
        for letters in (1, 2, 3, 4):
            for web in webs_to_try(letters, 10 + letters):
                for length in (0, 1, 2, 3, 6):
                    walk = some_walk(letters, length, rng)
                    expected = slow_web(letters, [slow_back(walk) + member + walk for member in basis(web)])
                    look_at_answer(self, expected, turned, web, walk)
                    look_at_answer(self, web, turned, turned(web, walk), slow_back(walk))
                    look_at_answer(self, expected, turned, web, slow_straight(walk))

    def test_one_walk_behind_another(self):
        rng = random.Random(2)
        for web in webs_to_try(2, 2):
            one, other = some_walk(2, 5, rng), some_walk(2, 5, rng)
            look_at_answer(self, turned(web, one + other), turned, turned(web, one), other)

    def test_walks_that_belong_turn_nothing(self):
        for letters in (1, 2, 3):
            for web in webs_to_try(letters, 20 + letters):
                for member in basis(web):
                    look_at_answer(self, web, turned, web, member)
                    look_at_answer(self, web, turned, web, slow_back(member) + member * 2)

    def test_edges(self):
        rng = random.Random(3)
        for letters in (1, 2, 4):
            walk = some_straight(letters, 60, rng)
            look_at_answer(self, nothing(letters), turned, nothing(letters), walk)
            look_at_answer(self, whole(letters), turned, whole(letters), walk)
        look_at_answer(self, HALF, turned, HALF, ())
        look_at_answer(self, HALF, turned, HALF, (1, 1, 2, -2))
        look_at_answer(self, HALF, turned, HALF, (1, -2, 2, 1))
        look_at_answer(self, RING, turned, RING, (1,) * 400)
        look_at_answer(self, web_of(2, [(-2,) + (1,) * 60 + (2,)]), turned, RING, (1,) * 7 + (2,))
        look_at_answer(self, TWELVE, turned, turned(TWELVE, (1, 2, 2)), (-2, -2, -1))
        for web in (SIXTY, TWELVE, RING, APART):
            for length in (60, 400):
                walk = some_straight(web[0], length, rng)
                there = turned(web, walk)
                self.assertTrue(is_web(there))
                look_at_answer(self, web, turned, there, slow_back(walk))
                self.assertTrue(all(belongs(there, slow_back(walk) + member + walk) for member in basis(web)))


class LeadsInto(unittest.TestCase):
    def test_by_trying_all_walks(self):
        for letters, most in ((1, 4), (2, 4), (3, 3)):
            walks = all_straight_to(letters, most)
            for one in webs_to_try(letters, 30 + letters, 6):
                webs = [turned_by(one, walk) for walk in walks]
                for other in webs_to_try(letters, 40 + letters, 3) + webs[::7]:
                    answer = leads_into(one, other)
                    look_at_answer(self, answer, leads_into, one, other)
                    if other in webs:
                        self.assertEqual(answer, walks[webs.index(other)], (one, other))
                    elif answer is not None:
                        self.assertGreater(len(answer), most)
                        self.assertEqual(turned_by(one, answer), other)

    def test_clubs_that_are_turned_far(self):
        rng = random.Random(4)
        threes = web_of(3, [(1, 2, 3), (3, 3)])
        for web in (HALF, EVEN, TWOS, APART, THREES, TWELVE, RING, SIXTY, NOTHING, WHOLE, threes):
            for length in (1, 3, 8, 60, 400):
                walk = some_straight(web[0], length, rng)
                there = turned(web, walk)
                answer = leads_into(web, there)
                look_at_answer(self, answer, leads_into, web, there)
                self.assertEqual(slow_straight(answer), answer)
                self.assertLessEqual(slow_key(answer), slow_key(walk))
                self.assertEqual(turned_by(web, answer), there)
                self.assertEqual(answer, coset_walk(keeping(web), walk))
                back = leads_into(there, web)
                self.assertEqual(turned_by(there, back), web)

    def test_clubs_that_none_turns(self):
        for one, other in [
            (HALF, EVEN), (EVEN, TWOS), (EVEN, (2, ((0, 1), (1, 0)))), (HALF, WHOLE), (WHOLE, HALF), (NOTHING, HALF),
            (HALF, NOTHING), (NOTHING, WHOLE), (WHOLE, NOTHING), (RING, web_of(2, [(2,) * 60])), (RING, NOTHING),
            (RING, web_of(2, [(1,) * 59])), (web_of(2, [(1, 2)]), web_of(2, [(1, -2)])), (whole(1), nothing(1)),
            (web_of(1, [(1, 1)]), web_of(1, [(1, 1, 1)])), (web_of(2, [(1, 1), (2,)]), web_of(2, [(1, 1), (2, 2)])),
        ]:
            look_at_answer(self, None, leads_into, one, other)
        # The one has as many rooms, and ways of each letter, but they lie otherwise.
        look_at_answer(self, None, leads_into, web_of(2, [(1, 1, 2, 2)]), web_of(2, [(1, 2, 1, 2)]))
        look_at_answer(self, None, leads_into, web_of(2, [(1, 1, 2, 2)]), web_of(2, [(1, 1, -2, -2)]))

    def test_edges(self):
        for letters in (1, 2, 3, 4):
            for web in (nothing(letters), whole(letters)):
                look_at_answer(self, (), leads_into, web, web)
        for web in (HALF, EVEN, TWELVE, RING, APART, SIXTY):
            look_at_answer(self, (), leads_into, web, web)
        look_at_answer(self, (2,), leads_into, web_of(2, [(1, 2)]), web_of(2, [(-2, 1, 2, 2)]))
        look_at_answer(self, (1,), leads_into, web_of(2, [(1, 2)]), web_of(2, [(2, 1)]))
        look_at_answer(self, (1, 1), leads_into, web_of(2, [(1, 1, 2, 2)]), web_of(2, [(2, 2, 1, 1)]))
        # Half a round forward or back is as long: forward is the lesser one.
        twice = web_of(2, [(1, 2, -1, -2)])
        look_at_answer(self, (1, 2), leads_into, twice, web_of(2, [(-1, -2, 1, 2)]))
        look_at_answer(self, (-1,), leads_into, web_of(2, [(1, 2, 2, 1)]), web_of(2, [(1, 1, 2, 2)]))


class Keeping(unittest.TestCase):
    def test_by_trying_all_walks(self):
        tried = 0
        for letters in (1, 2, 3):
            for web in webs_to_try(letters, 50 + letters, 20):
                far_enough, walks = slow_keeping(web)
                answer = keeping(web)
                look_at_answer(self, answer, keeping, web)
                if far_enough and web != nothing(letters):
                    tried += 1
                    self.assertEqual(answer, slow_web(letters, basis(web) + walks))
                    look_at_answer(self, len({coset_walk(web, walk) for walk in walks}), keeping_index, web)
                self.assertTrue(contains(answer, web))
                self.assertTrue(all(belongs(answer, walk) for walk in walks))
                self.assertTrue(all(turned_by(web, walk) == web for walk in basis(answer)))
        self.assertGreater(tried, 40)

    def test_cosets_of_it(self):
        for web in (HALF, EVEN, TWOS, THREES, TWELVE, RING, SIXTY, APART, web_of(2, [(2, 1, 1, -2)])):
            many, kept = keeping_index(web), keeping(web)
            look_at_answer(self, many, keeping_index, web)
            if index(web) is not None:
                self.assertEqual(index(web), many * index(kept))
            # Each walk that is in it turns the club into itself.
            self.assertTrue(all(turned_by(web, walk) == web for walk in basis(kept)))

    def test_known_ones(self):
        look_at_answer(self, web_of(2, [(1,)]), keeping, RING)
        look_at_answer(self, 60, keeping_index, RING)
        look_at_answer(self, web_of(2, [(2, 1, -2)]), keeping, web_of(2, [(2, 1, 1, 1, -2)]))
        look_at_answer(self, 3, keeping_index, web_of(2, [(2, 1, 1, 1, -2)]))
        look_at_answer(self, web_of(2, [(1, 2)]), keeping, web_of(2, [(1, 2) * 4]))
        look_at_answer(self, 4, keeping_index, web_of(2, [(1, 2) * 4]))
        look_at_answer(self, web_of(2, [(1, 2, 2)]), keeping, web_of(2, [(1, 2, 2)]))
        look_at_answer(self, 1, keeping_index, web_of(2, [(1, 2, 2)]))
        look_at_answer(self, WHOLE, keeping, THREES)
        look_at_answer(self, 6, keeping_index, THREES)
        three = (2, ((1, 0), (0, 2), (2, 1)))
        look_at_answer(self, three, keeping, three)
        look_at_answer(self, 1, keeping_index, three)
        # Rooms of which straight walks go round lie alike twice, home is apart.
        web = web_of(2, [(1, 2, 1, 1, -2, -1), (1, 1, 2, 2, -1, -1)])
        self.assertEqual(slow_keeping(web)[1][0], ())
        look_at_answer(self, turned(keeping(turned(web, (1,))), (-1,)), keeping, web)

    def test_kept_by_all(self):
        for letters in (1, 2, 3, 4):
            for web in webs_to_try(letters, 60 + letters):
                steps = [(step,) for step in slow_steps(letters)]
                expected = all(turned_by(web, step) == web for step in steps)
                look_at_answer(self, expected, kept_by_all, web)
                self.assertEqual(expected, keeping(web) == whole(letters))
        for web in (NOTHING, WHOLE, EVEN, TWOS, THREES, nothing(1), web_of(1, [(1,) * 60])):
            look_at_answer(self, True, kept_by_all, web)
        for web in (HALF, RING, TWELVE, APART, SIXTY, (2, ((1, 0), (0, 2), (2, 1)))):
            look_at_answer(self, False, kept_by_all, web)

    def test_the_club_of_no_steps(self):
        for letters in (1, 2, 3, 4):
            look_at_answer(self, whole(letters), keeping, nothing(letters))
            look_at_answer(self, "endless", keeping_index, nothing(letters))
            look_at_answer(self, True, kept_by_all, nothing(letters))
            look_at_answer(self, whole(letters), keeping, whole(letters))
            look_at_answer(self, 1, keeping_index, whole(letters))
            look_at_answer(self, True, kept_by_all, whole(letters))
        look_at_answer(self, 7, keeping_index, web_of(1, [(1,) * 7]))

    def test_what_is_told_goes_on(self):
        for web in (HALF, APART, TWELVE, RING, SIXTY):
            there = turned(web, (1, 1))
            both = [] if web == SIXTY else [meet(web, there)]
            for other in (there, keeping(web), keeping(there), *both):
                self.assertTrue(is_web(other))
                self.assertTrue(contains(keeping(other), other))
            look_at_answer(self, turned(keeping(web), (1, 1)), keeping, there)
            look_at_answer(self, keeping_index(web), keeping_index, there)


class WrongArguments(unittest.TestCase):
    def test_webs_and_walks(self):
        look_at_refusals(self, turned, ("web", "web", HALF), ("walk", "walk", (1,)))
        for function in (keeping, keeping_index, kept_by_all):
            look_at_refusals(self, function, ("web", "web", HALF))

    def test_two_webs(self):
        look_at_refusals(self, leads_into, ("one", "web", HALF), ("other", "web", EVEN))
        look_at_refusal(self, Unlike, 1, leads_into, [WHOLE, whole(1)])
        look_at_refusal(self, Unlike, 3, leads_into, [NOTHING, nothing(3)], ["one", "other"])
        look_at_refusal(self, Unlike, 2, leads_into, [nothing(3), NOTHING])
        look_at_refusal(self, InvalidWeb, None, leads_into, [WHOLE, None])


if __name__ == "__main__":
    unittest.main()
