"""[32]: papers, which show that walks do not belong, and walkclubs/papers.py."""

import itertools
import random
import unittest

from tests.helpers import (
    BAD_BOOKS, EVEN, HALF, NOTHING, ODD_OBJECTS, WHOLE, all_straight, look_at_answer, look_at_lists, look_at_refusals,
    slow_led, slow_room, slow_straight, some_straight, some_walk, some_web,
)
from walkclubs.bases import basis
from walkclubs.papers import least_paper, paper, paper_holds, paper_places
from walkclubs.turns import is_book
from walkclubs.webs import nothing, web_of, whole

TWELVE = some_web(2, 12, random.Random(70))
FORTY = some_web(4, 40, random.Random(72))
SIXTY = some_web(4, 60, random.Random(80))


def is_paper(web, walks, book):
    """What is said of a paper."""
    if not is_book(book) or book[0] != web[0]:
        return False
    kept = all(slow_led(book, 0, walk) == 0 for walk in basis(web))
    return kept and all(slow_led(book, 0, walk) != 0 for walk in walks)


def any_belongs(web, walks):
    return any(slow_room(web, 0, walk) == 0 for walk in walks)


def some_cases(seed, many, most):
    """Webs and walks of which the rooms and the straight steps are together at most so many."""
    rng = random.Random(seed)
    found = 0
    while found < many:
        letters = rng.choice([1, 2, 2, 2, 3, 4])
        steps = most // 3 + 1
        web = web_of(letters, [some_walk(letters, rng.randrange(steps), rng) for _ in range(rng.randrange(4))])
        walks = tuple(some_walk(letters, rng.randrange(steps), rng) for _ in range(rng.randrange(1, 5)))
        if len(web[1]) + sum(len(slow_straight(walk)) for walk in walks) <= most:
            found += 1
            yield web, walks


def least_by_trying(web, walks, most):
    """The least number of places of a paper, of all books that have so few."""
    for count in range(1, most + 1):
        turns = list(itertools.permutations(range(count)))
        for chosen in itertools.product(turns, repeat=web[0]):
            if is_paper(web, walks, (web[0], chosen)):
                return count
    return None


class Examples(unittest.TestCase):
    def test_of_the_document(self):
        look_at_answer(self, True, paper_holds, HALF, ((1,),), (2, ((1, 0), (0, 1))))
        look_at_answer(self, 2, paper_places, HALF, ((1,),))
        look_at_answer(self, None, paper, HALF, ((1, 1),))
        look_at_answer(self, 3, paper_places, HALF, ((1, 2, -1),))

    def test_by_name(self):
        look_at_answer(self, True, paper_holds, value=(2, ((1, 0), (0, 1))), walks=((1,),), web=HALF)
        look_at_answer(self, 3, paper_places, walks=((1, 2, -1),), web=HALF)
        look_at_answer(self, None, paper, walks=((1, 1),), web=HALF)
        look_at_answer(self, None, least_paper, walks=((1, 1),), web=HALF)
        self.assertTrue(is_paper(HALF, ((1, 2, -1),), paper(walks=((1, 2, -1),), web=HALF)))
        self.assertTrue(is_paper(HALF, ((1, 2, -1),), least_paper(walks=((1, 2, -1),), web=HALF)))


class Papers(unittest.TestCase):
    def look(self, web, walks):
        answer = paper(web, walks)
        if any_belongs(web, walks):
            self.assertIsNone(answer)
        else:
            self.assertTrue(is_paper(web, walks, answer), (web, walks, answer))
            self.assertLessEqual(len(answer[1][0]), 40)
            look_at_answer(self, True, paper_holds, web, walks, answer)
        look_at_lists(self, answer, [web, walks])

    def test_p1(self):
        for web, walks in some_cases(1, 300, 40):
            self.look(web, walks)

    def test_at_the_bounds(self):
        rng = random.Random(2)
        for letters in (1, 2, 3, 4):
            self.look(nothing(letters), (some_straight(letters, 39, rng),))
            self.look(nothing(letters), ((1,) * 9, (-1,) * 10, (1, 1), (-1,) * 18))
            self.look(nothing(letters), tuple(some_straight(letters, count, rng) for count in (9, 10, 10, 10)))
            self.look(whole(letters), ((1,), ()))
        for web in (web_of(2, [(1,) * 20]), web_of(2, [(1,) * 10 + (2,) + (-1,) * 9])):
            left = 40 - len(web[1])
            for walk in ((1,) * left, (2,) * left, (1,) * (left - 1) + (2,), (-1,) * 5 + (2,) * (left - 5)):
                self.look(web, (walk,))
        self.look(TWELVE, (some_straight(2, 28, rng),))
        self.look(TWELVE, tuple(some_straight(2, 7, rng) for _ in range(4)))
        for walk in all_straight(2, 2):
            self.look(TWELVE, (walk,))
        self.look(some_web(2, 39, rng), ((1,),))
        self.look(FORTY, ((1, -1),))

    def test_walks_that_are_not_straight(self):
        for walk in ((1, -1), (1, 2, -2, -1), (2, 1, -1), (1, 2, -2, 1)):
            self.look(HALF, (walk,))
            self.look(NOTHING, (walk, (1,)))
            look_at_answer(self, None if any_belongs(HALF, [walk]) else 2, paper_places, HALF, (walk,))

    def test_walks_among_them_that_belong(self):
        for walks in (((1,), ()), ((1,), (2,)), ((1,), (1, 2), (-1,), (1, 1)), ((1, -1),), ((2,) * 3, (1,))):
            for function in (paper, paper_places, least_paper):
                look_at_answer(self, None, function, HALF, walks)
            for book in (EVEN, (2, ((1, 0, 2), (0, 2, 1)))):
                look_at_answer(self, False, paper_holds, HALF, walks, book)


class PaperHolds(unittest.TestCase):
    def test_of_any_object(self):
        for value in BAD_BOOKS + ODD_OBJECTS:
            look_at_answer(self, False, paper_holds, HALF, ((1,),), value)
        for value in ((1, ((1, 0),)), (3, ((1, 0), (0, 1), (0, 1))), (2, [(1, 0), (0, 1)]), [2, ((1, 0), (0, 1))]):
            look_at_answer(self, False, paper_holds, HALF, ((1,),), value)

    def test_of_all_small_books(self):
        rng = random.Random(3)
        for web, walks in [(HALF, ((1,),)), (HALF, ((1, 2, -1),)), *some_cases(3, 12, 8)]:
            for _ in range(60):
                count = rng.randrange(1, 6)
                book = (web[0], tuple(tuple(rng.sample(range(count), count)) for _ in range(web[0])))
                look_at_answer(self, is_paper(web, walks, book), paper_holds, web, walks, book)
        for turns in itertools.product(list(itertools.permutations(range(3))), repeat=2):
            for walks in (((1,),), ((1, 2),), ((1, 2, -1), (-1,)), ((), (1,))):
                for web in (HALF, NOTHING, EVEN, WHOLE):
                    look_at_answer(self, is_paper(web, walks, (2, turns)), paper_holds, web, walks, (2, turns))

    def test_of_great_webs(self):
        rng = random.Random(4)
        book = (4, tuple(tuple(row[at] for row in FORTY[1]) for at in range(4)))
        for _ in range(10):
            walk = some_walk(4, 60, rng)
            look_at_answer(self, slow_room(FORTY, 0, walk) != 0, paper_holds, FORTY, (walk,), book)
            look_at_answer(self, False, paper_holds, SIXTY, (walk,), book)


class Least(unittest.TestCase):
    def look(self, web, walks, count):
        look_at_answer(self, count, paper_places, web, walks)
        book = least_paper(web, walks)
        if count is None:
            self.assertIsNone(book)
        else:
            self.assertEqual(len(book[1][0]), count)
            self.assertTrue(is_paper(web, walks, book), (web, walks, book))

    def test_by_trying_all_books(self):
        for web, walks in some_cases(5, 150, 8):
            if any_belongs(web, walks):
                self.look(web, walks, None)
            else:
                count = paper_places(web, walks)
                most = min(count, {1: 6, 2: 4, 3: 3, 4: 3}[web[0]])
                least = least_by_trying(web, walks, most)
                self.assertEqual(least, count if most == count else None, (web, walks))
                self.look(web, walks, count)

    def test_along_one_letter(self):
        # Of one letter a book has a ring at the place 0: the walk must not go round it.
        for length, count in ((1, 2), (2, 3), (3, 2), (4, 3), (5, 2), (6, 4), (7, 2)):
            self.look(nothing(1), ((1,) * length,), count)
        self.look(nothing(1), ((1,), (1, 1), (1,) * 4), 3)
        self.look(nothing(1), ((1,) * 3, (1,) * 4), 5)
        self.look(web_of(1, [(1,) * 6]), ((1, 1),), 3)
        self.look(web_of(1, [(1,) * 6]), ((1,) * 2,), 3)
        self.look(web_of(1, [(1,) * 4]), ((1, 1), (-1,)), 4)
        self.look(web_of(1, [(1,) * 4]), ((1,),), 2)
        self.look(web_of(1, [(1,) * 4]), ((1,) * 4,), None)

    def test_edges(self):
        self.look(WHOLE, ((1,),), None)
        self.look(NOTHING, ((1, 2, -1, -2),), 3)
        self.look(NOTHING, ((1, 2, -1, -2, 1),), 2)
        self.look(nothing(4), ((1,), (2,), (3,), (4,)), 2)
        self.look(nothing(4), ((1, -2), (2, -3), (3, -4)), 2)
        self.look(nothing(4), ((1, -2), (1, -3), (2, -3)), 3)
        self.look(HALF, ((1,), (1, 2), (1, -2), (-1,)), 2)


class WrongArguments(unittest.TestCase):
    def test_webs_and_walks(self):
        for function in (paper, paper_places, least_paper):
            look_at_refusals(self, function, ("web", "web", HALF), ("walks", "paper walks", ((1,),)))
        look_at_refusals(
            self, paper_holds, ("web", "web", HALF), ("walks", "paper walks", ((1,),)), ("value", [], EVEN)
        )


if __name__ == "__main__":
    unittest.main()
