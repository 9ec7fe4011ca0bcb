"""[34]: two clubs, and walkclubs/meets.py."""

import random
import unittest

from tests.helpers import (
    EVEN, HALF, NOTHING, WHOLE, all_straight_to, look_at_answer, look_at_refusal, look_at_refusals, slow_back,
    slow_room, slow_straight, slow_web, some_straight, some_walk, some_web, web_of_turns, webs_with,
)
from walkclubs.bases import basis, put
from walkclubs.errors import InvalidWalk, InvalidWeb, Unlike
from walkclubs.meets import common_coset_walk, join, meet, meet_basis_size
from walkclubs.webs import contains, is_web, nothing, rank, web_of, whole

TWELVE = some_web(2, 12, random.Random(70))
OTHER_TWELVE = some_web(2, 12, random.Random(73))
FORTY = some_web(4, 40, random.Random(72))
SIXTY = some_web(4, 60, random.Random(80))
RING = web_of(2, [(1,) * 60])
TWOS = (2, ((1, 1), (0, 0)))


def same_coset(web, one, other):
    """Whether the one walk with the other one turned back behind it belongs."""
    return slow_room(web, 0, one + slow_back(other)) == 0


def some_member(web, rng, most=4):
    walks = basis(web)
    if not walks:
        return ()
    numbers = [rng.choice([-1, 1]) * rng.randrange(1, len(walks) + 1) for _ in range(rng.randrange(most))]
    return put(web[0], walks, tuple(numbers))


class Examples(unittest.TestCase):
    def test_of_the_document(self):
        for expected, function, *arguments in [
            (HALF, meet, HALF, EVEN), (WHOLE, join, HALF, (2, ((0, -1),))),
            (5, meet_basis_size, EVEN, (2, ((0, 1), (1, 0)))), ((1,), common_coset_walk, HALF, (1,), EVEN, (1, 2)),
            (None, common_coset_walk, HALF, (1,), EVEN, ()),
        ]:
            look_at_answer(self, expected, function, *arguments)

    def test_by_name(self):
        look_at_answer(self, HALF, meet, other=EVEN, one=HALF)
        look_at_answer(self, WHOLE, join, other=(2, ((0, -1),)), one=HALF)
        look_at_answer(self, 5, meet_basis_size, other=(2, ((0, 1), (1, 0))), one=EVEN)
        look_at_answer(self, (1,), common_coset_walk, second=(1, 2), other=EVEN, first=(1,), one=HALF)


class Meet(unittest.TestCase):
    def test_walks_that_belong_to_both(self):
        for letters in (1, 2, 3):
            walks = all_straight_to(letters, {1: 12, 2: 5, 3: 3}[letters])
            webs = webs_with(letters, letters)
            for one in webs:
                for other in webs[::2]:
                    web = meet(one, other)
                    look_at_answer(self, web, meet, one, other)
                    self.assertTrue(is_web(web))
                    for walk in walks[::3]:
                        both = slow_room(one, 0, walk) == 0 and slow_room(other, 0, walk) == 0
                        self.assertEqual(slow_room(web, 0, walk) == 0, both, (one, other, walk))
                    self.assertTrue(contains(one, web) and contains(other, web))
                    look_at_answer(self, rank(web), meet_basis_size, one, other)
                    self.assertEqual(meet(other, one), web)

    def test_as_many_rooms_as_both_have_multiplied(self):
        # Rings along a letter each, with the other one kept, meet in all pairs of rooms.
        for count, other_count in ((12, 11), (3, 4), (7, 60), (60, 59)):
            one = web_of_turns(2, [[*range(1, count), 0], list(range(count))])
            other = web_of_turns(2, [list(range(other_count)), [*range(1, other_count), 0]])
            web = meet(one, other)
            self.assertEqual(len(web[1]), count * other_count)
            look_at_answer(self, count * other_count + 1, meet_basis_size, one, other)
        web = meet(TWELVE, OTHER_TWELVE)
        self.assertEqual(len(web[1]), 144)
        look_at_answer(self, 145, meet_basis_size, TWELVE, OTHER_TWELVE)
        rng = random.Random(1)
        for _ in range(200):
            walk = some_walk(2, 30, rng)
            both = slow_room(TWELVE, 0, walk) == 0 and slow_room(OTHER_TWELVE, 0, walk) == 0
            self.assertEqual(slow_room(web, 0, walk) == 0, both)
        look_at_answer(self, web_of(1, [(1,) * 132]), meet, web_of(1, [(1,) * 12]), web_of(1, [(1,) * 11]))
        look_at_answer(self, web_of(1, [(1,) * 60]), meet, web_of(1, [(1,) * 12]), web_of(1, [(1,) * 10]))

    def test_rooms_that_lead_to_none(self):
        # Both go along for long, but no walk comes home in both.
        one, other = web_of(2, [(1,) * 20 + (2,) * 5]), web_of(2, [(1,) * 20 + (-2,) * 5])
        look_at_answer(self, NOTHING, meet, one, other)
        look_at_answer(self, 0, meet_basis_size, one, other)
        # Far from home they have a ring in common.
        one = web_of(2, [(1, 1, 2, 2, -1, -1), (2, 1, 2)])
        other = web_of(2, [(1, 1, 2, 2, 2, -1, -1), (2, 1, 1)])
        look_at_answer(self, web_of(2, [(1, 1) + (2,) * 6 + (-1, -1)]), meet, one, other)

    def test_edges(self):
        for web in (NOTHING, WHOLE, HALF, EVEN, TWOS, TWELVE, RING):
            look_at_answer(self, web, meet, web, web)
            look_at_answer(self, web, meet, web, WHOLE)
            look_at_answer(self, NOTHING, meet, NOTHING, web)
            look_at_answer(self, 0, meet_basis_size, web, NOTHING)
        look_at_answer(self, SIXTY, meet, SIXTY, whole(4))
        look_at_answer(self, SIXTY, meet, SIXTY, SIXTY)
        web = meet(FORTY, SIXTY)
        self.assertTrue(contains(FORTY, web) and contains(SIXTY, web))
        look_at_answer(self, 3 * len(web[1]) + 1, meet_basis_size, FORTY, SIXTY)


class Join(unittest.TestCase):
    def test_walks_of_both(self):
        for letters in (1, 2, 3):
            webs = webs_with(letters, 10 + letters, 7)
            for one in webs:
                for other in webs[::2]:
                    look_at_answer(self, slow_web(letters, basis(one) + basis(other)), join, one, other)
                    self.assertEqual(join(one, other), join(other, one))

    def test_edges(self):
        for web in (NOTHING, WHOLE, HALF, EVEN, TWOS, TWELVE, RING):
            look_at_answer(self, web, join, web, web)
            look_at_answer(self, web, join, web, NOTHING)
            look_at_answer(self, WHOLE, join, WHOLE, web)
        look_at_answer(self, SIXTY, join, SIXTY, nothing(4))
        look_at_answer(self, SIXTY, join, SIXTY, web_of(4, basis(SIXTY)[3:60:7]))
        look_at_answer(self, web_of(2, [(1,) * 12]), join, RING, web_of(2, [(1,) * 24]))
        look_at_answer(self, web_of(1, [(1,)]), join, web_of(1, [(1,) * 12]), web_of(1, [(1,) * 11]))
        web = join(FORTY, SIXTY)
        self.assertTrue(contains(web, FORTY) and contains(web, SIXTY))
        look_at_answer(self, web_of(2, [(1, 2), (1, -2)]), join, web_of(2, [(1, 2)]), web_of(2, [(1, -2)]))


class CommonCosets(unittest.TestCase):
    def test_by_trying_all_walks(self):
        rng = random.Random(2)
        for letters in (1, 2, 3):
            most = {1: 10, 2: 5, 3: 3}[letters]
            walks = all_straight_to(letters, most)
            webs = webs_with(letters, 20 + letters, 5)
            for one in webs:
                for other in webs[::2]:
                    first, second = some_walk(letters, rng.randrange(5), rng), some_walk(letters, rng.randrange(5), rng)
                    self.look(one, first, other, second, walks, most)
                    walk = rng.choice(walks)
                    self.look(one, some_member(one, rng) + walk, other, some_member(other, rng) + walk, walks, most)

    def look(self, one, first, other, second, walks, most):
        answer = common_coset_walk(one, first, other, second)
        look_at_answer(self, answer, common_coset_walk, one, first, other, second)
        found = [walk for walk in walks if same_coset(one, walk, first) and same_coset(other, walk, second)]
        case = (one, first, other, second, answer)
        if found:
            self.assertEqual(answer, found[0], case)
        elif answer is not None:
            self.assertGreater(len(answer), most, case)
            self.assertEqual(slow_straight(answer), answer)
            self.assertTrue(same_coset(one, answer, first) and same_coset(other, answer, second), case)

    def test_walks_that_are_put_together(self):
        # Of a walk of both cosets that is made there is a least one, not beyond it.
        rng = random.Random(3)
        for one, other in ((TWELVE, OTHER_TWELVE), (HALF, TWOS), (RING, HALF), (FORTY, SIXTY), (NOTHING, TWELVE),
                           (web_of(2, [(1, 2, 2, -1), (1, 1, 1)]), web_of(2, [(2, 1, 1), (1, 2, 1, 2)]))):
            for length in (0, 3, 30, 60, 400):
                walk = some_straight(one[0], length, rng)
                first, second = some_member(one, rng) + walk, some_member(other, rng) + walk
                answer = common_coset_walk(one, first, other, second)
                self.assertTrue(same_coset(one, answer, walk) and same_coset(other, answer, walk))
                self.assertLessEqual(len(answer), len(walk))
                look_at_answer(self, answer, common_coset_walk, one, answer, other, walk)

    def test_outside_of_both_webs(self):
        # Behind open doors a coset has but one way on.
        for web in (NOTHING, HALF, RING):
            look_at_answer(self, (2, 1, 2), common_coset_walk, NOTHING, (2, 1, 2), web, (2, 1, 2))
        look_at_answer(self, (1, 2), common_coset_walk, NOTHING, (1, 2), NOTHING, (1, 2))
        look_at_answer(self, None, common_coset_walk, NOTHING, (1, 2), NOTHING, (1, -2))
        look_at_answer(self, (1, 2), common_coset_walk, HALF, (1, 2), NOTHING, (1, 2))
        look_at_answer(self, (2, 1, 2), common_coset_walk, HALF, (1, 2), NOTHING, (2, 1, 2))
        look_at_answer(self, None, common_coset_walk, HALF, (1, 2), NOTHING, (1, 2, 1))
        look_at_answer(self, (1, 2, 1, 2), common_coset_walk, web_of(2, [(1, 2)]), (1, 2, 1, 2), NOTHING, (1, 2, 1, 2))
        # The one leaves its web ahead of the other one.
        one, other = web_of(2, [(1, 1)]), web_of(2, [(1, 1), (2, 2)])
        look_at_answer(self, (2, 2, 1), common_coset_walk, one, (2, 2, 1), other, (1,))
        look_at_answer(self, (1, 2, 2, 1), common_coset_walk, one, (-1, 2, 2, 1), other, (1, 2, 2, 1))
        look_at_answer(self, None, common_coset_walk, one, (2,), other, (1,))

    def test_edges(self):
        for letters in (1, 2, 4):
            look_at_answer(self, (), common_coset_walk, whole(letters), (1,), whole(letters), (-1,) * 60)
            look_at_answer(self, (), common_coset_walk, nothing(letters), (1, -1), nothing(letters), ())
            look_at_answer(self, (1,) * 400, common_coset_walk, nothing(letters), (1,) * 400, whole(letters), ())
            look_at_answer(self, None, common_coset_walk, nothing(letters), (1,) * 400, nothing(letters), (1,) * 399)
        rings = {count: web_of(1, [(1,) * count]) for count in (5, 7, 12, 60)}
        look_at_answer(self, (-1,) * 12, common_coset_walk, rings[60], (1,) * 48, rings[12], ())
        look_at_answer(self, (1,) * 13, common_coset_walk, rings[5], (1,) * 3, rings[7], (-1,))
        look_at_answer(self, None, common_coset_walk, web_of(1, [(1,) * 6]), (1,), web_of(1, [(1,) * 4]), ())


class WrongArguments(unittest.TestCase):
    def test_two_webs(self):
        for function in (meet, join, meet_basis_size):
            look_at_refusals(self, function, ("one", "web", HALF), ("other", "web", EVEN))
            look_at_refusal(self, Unlike, 1, function, [WHOLE, whole(1)])
            look_at_refusal(self, Unlike, 3, function, [NOTHING, whole(3)], ["one", "other"])
            look_at_refusal(self, InvalidWeb, None, function, [WHOLE, None])

    def test_two_webs_and_two_walks(self):
        look_at_refusals(
            self, common_coset_walk, ("one", "web", HALF), ("first", "walk", (1,)), ("other", "web", EVEN),
            ("second", "walk", (1, 2)),
        )
        names = ["one", "first", "other", "second"]
        for second in ((1,), None, (3,), [1]):
            look_at_refusal(self, Unlike, 3, common_coset_walk, [HALF, (1,), whole(3), second])
            look_at_refusal(self, Unlike, 1, common_coset_walk, [HALF, (1,), whole(1), second], names)
        look_at_refusal(self, InvalidWalk, (3,), common_coset_walk, [HALF, (3,), whole(3), (3,)], names)
        look_at_refusal(self, InvalidWalk, (2,), common_coset_walk, [whole(1), (2,), whole(2), (3,)])
        look_at_refusal(self, InvalidWalk, (3,), common_coset_walk, [HALF, (2,), HALF, (3,)])


if __name__ == "__main__":
    unittest.main()
