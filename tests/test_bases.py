"""[8], [14]: writings and bases, walkclubs/bases.py."""

import itertools
import random
import unittest

from tests.helpers import (
    BAD_WALKS, EVEN, HALF, NOTHING, ODD_OBJECTS, WHOLE, all_straight_to, look_at_answer, look_at_refusal,
    look_at_refusals, slow_back, slow_room, slow_straight, some_lists, some_straight, some_walk, some_web,
)
from walkclubs.bases import basis, free, is_basis, put, relation, rewriting, tree, written
from walkclubs.errors import InvalidWalk, InvalidWeb, InvalidWriting, NotWithin
from walkclubs.webs import first_way, nothing, rank, web_of, whole

SIXTY = some_web(4, 60, random.Random(70))
WEBS = [NOTHING, WHOLE, HALF, EVEN, (1, ((-1,),)), (1, ((0,),)), whole(4), web_of(3, [(1, 2, 3, 3, -2, -1), (1, 1)])]
LONG = [(1,), (2,) + (1,) * 8, (3,) + (2,) * 8, (4,) + (3,) * 8]


def webs_to_try(seed, many=30):
    rng = random.Random(seed)
    folded = [web_of(2, walks) for walks in some_lists(2, many, seed, longest=8)]
    return WEBS + folded + [some_web(2, rng.randrange(1, 9), rng) for _ in range(8)]


def slow_put(walks, writing):
    steps = ()
    for number in writing:
        steps += walks[number - 1] if number > 0 else slow_back(walks[-number - 1])
    return slow_straight(steps)


def slow_tree(web):
    """The ways that the first ways go, step by step."""
    ways = set()
    for room in range(len(web[1])):
        walk = first_way(web, room)
        for at, step in enumerate(walk):
            one, other = slow_room(web, 0, walk[:at]), slow_room(web, 0, walk[:at + 1])
            ways.add((one, step, other) if step > 0 else (other, -step, one))
    return sorted(ways)


def some_basis(walks, rng, turns):
    """Another basis of what a basis makes: walks put behind one another, turned back, and mixed."""
    walks = list(walks)
    for _ in range(turns):
        at = rng.randrange(len(walks))
        if rng.random() < 0.3:
            walks[at] = slow_back(walks[at])
        elif len(walks) > 1:
            other = rng.choice(walks[:at] + walks[at + 1:])
            walks[at] = slow_straight(rng.choice([walks[at] + other, other + walks[at], slow_back(other) + walks[at]]))
    rng.shuffle(walks)
    return walks


def steps_of_all(walks):
    return sum(len(slow_straight(walk)) for walk in walks)


class Examples(unittest.TestCase):
    def test_of_the_document(self):
        for expected, function, *arguments in [
            ([(0, 1, 1)], tree, HALF), ([(2,), (1, 1)], basis, HALF), ((2, 1), written, HALF, (1, 1, 2)),
            (None, written, HALF, (1,)), ((1, 1, 2), put, 2, [(2,), (1, 1)], (2, 1)),
            (True, is_basis, HALF, [(1, 1), (1, 1, 2)]), ([(-1, 2), (1,)], rewriting, HALF, [(1, 1), (1, 1, 2)]),
            (False, free, 2, [(1,), (2,), (1, 2)]),
        ]:
            look_at_answer(self, expected, function, *arguments)

    def test_by_name(self):
        look_at_answer(self, [(0, 1, 1)], tree, web=HALF)
        look_at_answer(self, [(2,), (1, 1)], basis, web=HALF)
        look_at_answer(self, (2, 1), written, walk=(1, 1, 2), web=HALF)
        look_at_answer(self, (1, 1, 2), put, writing=(2, 1), walks=[(2,), (1, 1)], letters=2)
        look_at_answer(self, True, is_basis, walks=[(1, 1), (1, 1, 2)], web=HALF)
        look_at_answer(self, [(-1, 2), (1,)], rewriting, walks=[(1, 1), (1, 1, 2)], web=HALF)
        look_at_answer(self, False, free, walks=[(1,), (2,), (1, 2)], letters=2)
        look_at_answer(self, None, relation, walks=[(1,), (2,)], letters=2)


class Trees(unittest.TestCase):
    def test_tree_and_basis(self):
        for web in webs_to_try(1) + [SIXTY]:
            ways = slow_tree(web)
            look_at_answer(self, ways, tree, web)
            self.assertEqual(len(ways), len(web[1]) - 1)
            walks = []
            for room, row in enumerate(web[1]):
                for letter, after in enumerate(row, 1):
                    if after >= 0 and (room, letter, after) not in ways:
                        walks.append(first_way(web, room) + (letter,) + slow_back(first_way(web, after)))
            look_at_answer(self, walks, basis, web)
            self.assertEqual([slow_straight(walk) for walk in walks], walks)
            self.assertEqual(len(walks), rank(web))
            self.assertEqual(web_of(web[0], walks), web)
        self.assertEqual(tree((2, ((1, 0), (0, 2), (2, 1)))), [(0, 1, 1), (1, 2, 2)])
        self.assertEqual(tree(web_of(1, [(1, 1, 1)])), [(0, 1, 1), (2, 1, 0)])

    def test_edges(self):
        look_at_answer(self, [], tree, NOTHING)
        look_at_answer(self, [], basis, NOTHING)
        look_at_answer(self, [], tree, whole(4))
        look_at_answer(self, [(1,), (2,), (3,), (4,)], basis, whole(4))


class Writings(unittest.TestCase):
    def test_written(self):
        rng = random.Random(2)
        for web in webs_to_try(2):
            walks = basis(web)
            for walk in all_straight_to(web[0], 4 if web[0] < 3 else 2):
                if slow_room(web, 0, walk) != 0:
                    look_at_answer(self, None, written, web, walk)
                else:
                    writing = written(web, walk)
                    self.assertEqual(slow_straight(writing), writing)
                    self.assertEqual(slow_put(walks, writing), walk)
            look_at_answer(self, (), written, web, (1, -1))
            for _ in range(10 if walks else 0):
                numbers = [sign * number for number in range(1, len(walks) + 1) for sign in (1, -1)]
                writing = tuple(rng.choice(numbers) for _ in range(rng.randrange(9)))
                look_at_answer(self, slow_straight(writing), written, web, slow_put(walks, writing))

    def test_of_sixty_rooms(self):
        rng = random.Random(3)
        walks = basis(SIXTY)
        for length in (1, 10, 200):
            numbers = [sign * number for number in range(1, len(walks) + 1) for sign in (1, -1)]
            writing = slow_straight(tuple(rng.choice(numbers) for _ in range(length)))
            walk = put(4, walks, writing)
            self.assertEqual(walk, slow_put(walks, writing))
            self.assertEqual(written(SIXTY, walk), writing)
        self.assertIsNone(written(SIXTY, walks[0][:-1] or (1, 2)))

    def test_put(self):
        rng = random.Random(4)
        for walks in some_lists(3, 60, 4):
            numbers = [sign * number for number in range(1, len(walks) + 1) for sign in (1, -1)]
            writing = tuple(rng.choice(numbers) for _ in range(rng.randrange(12) if walks else 0))
            look_at_answer(self, slow_put(walks, writing), put, 3, walks, writing)
        look_at_answer(self, (), put, 1, [], ())
        look_at_answer(self, (), put, 2, [(1, -1)], (1,))
        look_at_answer(self, (), put, 2, [(1, 2)], (1, -1))
        look_at_answer(self, (1,) * 400, put, 1, [(1, 1)] * 8, (8,) * 200)
        walks = [some_walk(4, 60, rng) for _ in range(8)]
        writing = tuple(rng.choice((1, -2, 3, -4, 5, 6, -7, 8)) for _ in range(200))
        look_at_answer(self, slow_straight(put(4, walks, writing)), put, 4, walks, writing)


class Free(unittest.TestCase):
    def test_free_and_relations(self):
        seen = {True: 0, False: 0}
        for letters in (1, 2, 3):
            for walks in some_lists(letters, 80, 30 + letters, longest=5):
                answer = relation(letters, walks)
                look_at_answer(self, answer is None, free, letters, walks)
                seen[answer is None] += 1
                if answer is None:
                    # No short writing makes nothing.
                    numbers = [sign * number for number in range(1, len(walks) + 1) for sign in (1, -1)]
                    for length in range(1, 4):
                        for writing in itertools.product(numbers, repeat=length):
                            if slow_straight(writing) == writing:
                                self.assertNotEqual(slow_put(walks, writing), ())
                else:
                    self.look_at_relation(walks, answer)
        self.assertTrue(min(seen.values()) > 20)

    def look_at_relation(self, walks, answer):
        self.assertIs(type(answer), tuple)
        self.assertTrue(answer and all(type(number) is int and 1 <= abs(number) <= len(walks) for number in answer))
        self.assertEqual(slow_straight(answer), answer)
        self.assertEqual(slow_put(walks, answer), ())

    def test_edges(self):
        look_at_answer(self, True, free, 4, [])
        look_at_answer(self, None, relation, 4, [])
        for walks in ([()], [(1,), (2, -2)], [(1, 2), (1, 2)], [(1, 2), (-2, -1)], [(1,) * 13, (1,) * 8, (2,)],
                      [(1,), (2,), (1, 2, -1, -2)], [(1, 2, 1), (1, 2, 1, 1, 2, 1)], LONG[:3] + [(3, 1, 3)],
                      [(2, 1, 1, -2), (2, 1, 1, 1, -2)]):
            look_at_answer(self, False, free, 3, walks)
            self.look_at_relation(walks, relation(3, walks))
        rng = random.Random(5)
        walks = [some_straight(4, 60, rng) for _ in range(8)]
        look_at_answer(self, True, free, 4, walks)
        look_at_answer(self, False, free, 4, walks[:7] + [walks[0] + walks[1]])
        look_at_answer(self, True, free, 4, basis(SIXTY))
        look_at_answer(self, None, relation, 4, basis(SIXTY))
        look_at_answer(self, False, free, 4, basis(SIXTY) + [(1,) * 60])

    def test_relations_of_thirty_steps(self):
        rng = random.Random(6)
        for _ in range(60):
            letters = rng.choice((2, 3, 4))
            walks = [(letter,) for letter in range(1, letters + 1)] + [some_walk(letters, rng.randrange(5), rng)]
            longer = some_basis(walks, rng, rng.randrange(12))
            if steps_of_all(longer) <= 30:
                self.look_at_relation(longer, relation(letters, longer))


class Bases(unittest.TestCase):
    def look_at_rewriting(self, web, walks):
        look_at_answer(self, True, is_basis, web, walks)
        answer = rewriting(web, walks)
        self.assertIs(type(answer), list)
        self.assertEqual([slow_straight(writing) for writing in answer], answer)
        self.assertEqual([slow_put(walks, writing) for writing in answer], basis(web))

    def test_other_bases(self):
        rng = random.Random(7)
        for web in webs_to_try(7):
            walks = basis(web)
            self.look_at_rewriting(web, walks)
            look_at_answer(self, [(number,) for number in range(1, len(walks) + 1)], rewriting, web, walks)
            for turns in (2, 5, 10) if walks else ():
                other = some_basis(walks, rng, turns)
                look_at_answer(self, True, is_basis, web, other)
                if steps_of_all(other) <= 30:
                    self.look_at_rewriting(web, other)
                less, more = other[1:], other + [slow_back(other[0])]
                for none in (less, more, other[1:] + [slow_straight(other[0] + other[0])], other[1:] + [()]):
                    look_at_answer(self, False, is_basis, web, none)
                    look_at_refusal(self, NotWithin, none, rewriting, [web, none])

    def test_edges(self):
        look_at_answer(self, True, is_basis, NOTHING, [])
        look_at_answer(self, [], rewriting, NOTHING, [])
        look_at_answer(self, False, is_basis, NOTHING, [()])
        look_at_answer(self, False, is_basis, WHOLE, [(1,), (2,), (2,)])
        look_at_answer(self, False, is_basis, WHOLE, [(1,), (2, 2)])
        look_at_answer(self, False, is_basis, WHOLE, [(1,)])
        look_at_answer(self, True, is_basis, WHOLE, [(1, 2, -2), (-2, 1, -1)])
        look_at_answer(self, [(1,), (-2,)], rewriting, WHOLE, [(1, 2, -2), (-2, 1, -1)])
        look_at_answer(self, [(number,) for number in range(1, 182)], rewriting, SIXTY, basis(SIXTY))
        self.look_at_rewriting(whole(4), LONG)
        self.assertEqual(len(rewriting(whole(4), LONG)[3]), 1 + 8 * (1 + 8 * (1 + 8)))

    def test_not_within(self):
        look_at_refusal(self, NotWithin, [(1, -1, 1)], rewriting, [HALF, [(1, -1, 1)]])
        look_at_refusal(self, NotWithin, [(1, 2)], rewriting, [nothing(2), [(1, 2)]])
        look_at_refusal(self, InvalidWalk, (3,), rewriting, [HALF, [(1,), (3,)]])


class WrongArguments(unittest.TestCase):
    def test_webs(self):
        for function in (tree, basis):
            look_at_refusals(self, function, ("web", "web", HALF))
        look_at_refusals(self, written, ("web", "web", HALF), ("walk", "walk", (1, 1)))
        for function in (is_basis, rewriting):
            look_at_refusals(self, function, ("web", "web", HALF), ("walks", "walks", [(1, 1), (2,)]))

    def test_lists(self):
        letters, walks = ("letters", "letters", 2), ("walks", "walks", [(1, 1), (2,)])
        for function in (free, relation):
            look_at_refusals(self, function, letters, walks)
        look_at_refusals(self, put, letters, walks, ("writing", "writing", (1, -2)))

    def test_writings(self):
        for bad in [*ODD_OBJECTS, (3,), (1, -3), (0,), (1, True), [1], ([1],)]:
            if bad != (5,) and bad != (-5,):
                look_at_refusal(self, InvalidWriting, bad, put, [2, [(1,), (2,)], bad])
        for bad in ((1,), (-1,), [()], None):
            look_at_refusal(self, InvalidWriting, bad, put, [2, [], bad], ["letters", "walks", "writing"])
        look_at_refusal(self, InvalidWalk, BAD_WALKS[0], put, [2, [BAD_WALKS[0]], None])
        look_at_refusal(self, InvalidWeb, None, written, [None, None])


if __name__ == "__main__":
    unittest.main()
