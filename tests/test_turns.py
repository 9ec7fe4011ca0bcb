"""[31]: books of turns, and walkclubs/turns.py."""

import itertools
import math
import random
import unittest

from tests.helpers import (
    BAD_BOOKS, EVEN, HALF, NOTHING, ODD_OBJECTS, WHOLE, all_straight_to, look_at_answer, look_at_refusal,
    look_at_refusals, renumbered, slow_back, slow_led, slow_room, slow_steps, some_book, some_straight,
    some_walk, some_web,
)
from walkclubs.bases import basis
from walkclubs.errors import OpenDoor, TooMany
from walkclubs.turns import (
    all_keepers, book_of, circles, is_book, keepers, parts, place_after, short_turn, times_round, turn_of,
)
from walkclubs.webs import belongs, is_web, nothing, web_of, whole

THREE = (2, ((1, 0, 2), (0, 2, 1)))
ONE = (1, ((0,),))
FORTY = (1, (tuple([*range(1, 40), 0]),))
SIX = (2, ((1, 2, 3, 4, 5, 0), (1, 0, 2, 3, 4, 5)))


def some_books(seed):
    rng = random.Random(seed)
    books = [some_book(letters, count, rng) for letters in (1, 2, 3, 4) for count in (1, 2, 3, 5, 8, 12, 40)]
    return [THREE, ONE, FORTY, SIX, (4, ((0,),) * 4), *books]


def slow_turn(book, walk):
    return tuple(slow_led(book, place, walk) for place in range(len(book[1][0])))


def slow_circles(turn):
    """The places that a turn leads to one another."""
    found = set()
    for place in range(len(turn)):
        circle = [place]
        while turn[circle[-1]] != place:
            circle.append(turn[circle[-1]])
        found.add(tuple(sorted(circle)))
    return sorted(list(circle) for circle in found)


def slow_parts(book):
    """The places that are led to one another: joined by each letter until nothing changes."""
    marks = list(range(len(book[1][0])))
    changed = True
    while changed:
        changed = False
        for turn in book[1]:
            for place, after in enumerate(turn):
                if marks[place] != marks[after]:
                    marks[place] = marks[after] = min(marks[place], marks[after])
                    changed = True
    return sorted([place for place in range(len(marks)) if marks[place] == mark] for mark in set(marks))


def slow_power(turn, times):
    """A turn done so many times: the same as often as the remainder by all that it goes round tells."""
    times %= math.lcm(*[len(circle) for circle in slow_circles(turn)])
    places = list(range(len(turn)))
    for _ in range(min(times, 10 ** 5)):
        places = [turn[place] for place in places]
    return tuple(places)


class Examples(unittest.TestCase):
    def test_of_the_document(self):
        for expected, function, *arguments in [
            ((2, 0, 1), turn_of, THREE, (1, 2)), (2, place_after, THREE, 0, (1, 2)), (3, times_round, THREE, (1, 2)),
            ([[0, 1], [2]], circles, THREE, (1,)), ([[0, 1, 2]], parts, THREE),
            ((2, ((1, 0), (0, 2), (2, 1))), keepers, THREE, 0),
            ((2, 0, 1), short_turn, THREE, (((1, 2), 10 ** 30),)), ((2, ((1, 0), (0, 1))), book_of, EVEN),
        ]:
            look_at_answer(self, expected, function, *arguments)
        self.assertEqual(len(all_keepers(THREE)[1]), 6)

    def test_by_name(self):
        look_at_answer(self, True, is_book, value=THREE)
        look_at_answer(self, 2, place_after, walk=(1, 2), place=0, book=THREE)
        look_at_answer(self, (2, 0, 1), turn_of, walk=(1, 2), book=THREE)
        look_at_answer(self, (2, 0, 1), short_turn, short=(((1, 2), 10 ** 30),), book=THREE)
        look_at_answer(self, 3, times_round, walk=(1, 2), book=THREE)
        look_at_answer(self, [[0, 1], [2]], circles, walk=(1,), book=THREE)
        look_at_answer(self, [[0, 1, 2]], parts, book=THREE)
        look_at_answer(self, (2, ((1, 0), (0, 2), (2, 1))), keepers, place=0, book=THREE)
        self.assertEqual(len(all_keepers(book=THREE)[1]), 6)
        look_at_answer(self, (2, ((1, 0), (0, 1))), book_of, web=EVEN)


class IsBook(unittest.TestCase):
    def test_of_any_object(self):
        for bad in BAD_BOOKS + ODD_OBJECTS:
            look_at_answer(self, False, is_book, bad)
        for book in some_books(1):
            look_at_answer(self, True, is_book, book)
            letters, turns = book
            look_at_answer(self, False, is_book, [letters, turns])
            look_at_answer(self, False, is_book, (letters, list(turns)))
            look_at_answer(self, False, is_book, (letters, (*turns[:-1], list(turns[-1]))))
            look_at_answer(self, False, is_book, (letters, turns[1:]))
            look_at_answer(self, letters < 4, is_book, (letters + 1, (*turns, turns[0])))
            count = len(turns[0])
            if count > 1:
                for turn in ((*turns[-1][:-1], turns[-1][0]), (*turns[-1][:-1], count)):
                    look_at_answer(self, False, is_book, (letters, (*turns[:-1], turn)))
                look_at_answer(self, letters == 1, is_book, (letters, (*turns[:-1], tuple(range(count - 1)))))


class Turns(unittest.TestCase):
    def test_walks(self):
        rng = random.Random(2)
        for book in some_books(2):
            count = len(book[1][0])
            for length in (0, 1, 2, 5, 60, 400):
                walk = some_walk(book[0], length, rng)
                turn = slow_turn(book, walk)
                look_at_answer(self, turn, turn_of, book, walk)
                for place in (0, count - 1, rng.randrange(count)):
                    look_at_answer(self, turn[place], place_after, book, place, walk)
                look_at_answer(self, slow_circles(turn), circles, book, walk)
                look_at_answer(self, math.lcm(*[len(circle) for circle in slow_circles(turn)]), times_round, book, walk)

    def test_times_round(self):
        primes = [2, 3, 5, 7, 11]
        turn, first = [], 0
        for prime in primes:
            turn += [first + (place + 1) % prime for place in range(prime)]
            first += prime
        book = (1, (tuple(turn),))
        look_at_answer(self, 2310, times_round, book, (1,))
        look_at_answer(self, 1155, times_round, book, (-1, -1))
        look_at_answer(self, 1, times_round, book, ())
        look_at_answer(self, 1, times_round, book, (1, -1))
        look_at_answer(self, 40, times_round, FORTY, (1,))
        look_at_answer(self, [[place] for place in range(40)], circles, FORTY, (1,) * 40)
        look_at_answer(self, [list(range(40))], circles, FORTY, (1,) * 7)
        look_at_answer(self, [list(range(0, 40, 2)), list(range(1, 40, 2))], circles, FORTY, (-1,) * 6)

    def test_short_writings(self):
        rng = random.Random(3)
        for book in some_books(3):
            for _ in range(4):
                short = tuple(
                    (some_walk(book[0], rng.randrange(61), rng), rng.choice([-1, 1]) * times)
                    for times in rng.sample([1, 2, 3, 10 ** 30, 10 ** 30 - 1, 10 ** 29 + 7, 40, 12345], 5)
                )
                places = list(range(len(book[1][0])))
                for walk, times in short:
                    turn = slow_power(slow_turn(book, walk), times)
                    places = [turn[place] for place in places]
                look_at_answer(self, tuple(places), short_turn, book, short)
            look_at_answer(self, tuple(range(len(book[1][0]))), short_turn, book, ())
        look_at_answer(self, (1, 2, 0), short_turn, THREE, (((1, 2), -10 ** 30),))
        short = (((1, 1, -1), 10 ** 30), ((1,), 13), ((), 9))
        look_at_answer(self, slow_turn(FORTY, (1,) * 13), short_turn, FORTY, short)
        look_at_answer(self, slow_turn(FORTY, (1,) * 20), short_turn, FORTY, (((1,), 20),) * 59)

    def test_parts(self):
        for book in some_books(4):
            look_at_answer(self, slow_parts(book), parts, book)
        look_at_answer(self, [[0, 3], [1, 2, 4]], parts, (2, ((3, 2, 1, 0, 4), (0, 4, 2, 3, 1))))
        look_at_answer(self, [[place] for place in range(40)], parts, (1, (tuple(range(40)),)))


class Keepers(unittest.TestCase):
    def test_one_place(self):
        for book in some_books(5):
            count = len(book[1][0])
            for place in {0, count // 2, count - 1}:
                table = {
                    other: {step: slow_led(book, other, (step,)) for step in slow_steps(book[0])}
                    for other in range(count)
                }
                table[-1] = table.pop(place)
                table = {room: {step: -1 if after == place else after for step, after in steps.items()}
                         for room, steps in table.items()}
                look_at_answer(self, renumbered(book[0], table), keepers, book, place)

    def test_walks_that_keep(self):
        rng = random.Random(6)
        for book in some_books(6):
            place = rng.randrange(len(book[1][0]))
            web = keepers(book, place)
            self.assertTrue(is_web(web))
            for walk in all_straight_to(book[0], 3) + [some_straight(book[0], 30, rng) for _ in range(10)]:
                self.assertEqual(slow_room(web, 0, walk) == 0, slow_led(book, place, walk) == place)
        self.assertEqual(len(keepers(FORTY, 7)[1]), 40)
        look_at_answer(self, whole(4), keepers, (4, ((0,),) * 4), 0)

    def test_all_places(self):
        rng = random.Random(7)
        for _ in range(60):
            book = some_book(rng.randrange(1, 5), rng.randrange(1, 5), rng)
            web = all_keepers(book)
            look_at_answer(self, web, all_keepers, book)
            self.assertTrue(is_web(web))
            count = len(book[1][0])
            for walk in all_straight_to(book[0], 3) + [some_walk(book[0], 12, rng) for _ in range(20)]:
                keeps = slow_turn(book, walk) == tuple(range(count))
                self.assertEqual(slow_room(web, 0, walk) == 0, keeps, (book, walk))
            # No less rooms: each first way leads the places otherwise, and no door is open.
            self.assertTrue(all(after >= 0 for row in web[1] for after in row))

    def test_too_many(self):
        look_at_refusal(self, TooMany, 720, all_keepers, [SIX])
        look_at_refusal(self, TooMany, 120, all_keepers, [(2, ((1, 2, 3, 4, 0), (1, 0, 2, 3, 4)))], ["book"])
        look_at_refusal(self, TooMany, 360, all_keepers, [(2, ((1, 2, 3, 4, 0, 5), (0, 1, 2, 4, 5, 3)))])
        self.assertEqual(len(all_keepers((2, ((1, 2, 3, 4, 0), (0, 1, 3, 4, 2))))[1]), 60)
        self.assertEqual(len(all_keepers((3, ((1, 2, 3, 4, 0, 5), (0, 1, 3, 4, 2, 5), (0, 1, 2, 3, 4, 5))))[1]), 60)
        for seed in range(60):
            rng = random.Random(seed)
            book = some_book(rng.randrange(1, 5), 6, rng)
            order = self.order(book)
            if order > 60:
                look_at_refusal(self, TooMany, order, all_keepers, [book])
            else:
                self.assertEqual(len(all_keepers(book)[1]), order)

    def order(self, book):
        """How many turns the walks of a book have."""
        met = {tuple(range(len(book[1][0])))}
        new = set(met)
        while new:
            new = {tuple(turn[place] for place in one) for one in new for turn in book[1]} - met
            met |= new
        return len(met)

    def test_edges(self):
        look_at_answer(self, whole(1), all_keepers, ONE)
        look_at_answer(self, whole(4), all_keepers, (4, (tuple(range(6)),) * 4))
        look_at_answer(self, EVEN, all_keepers, EVEN)
        look_at_answer(self, web_of(1, [(1,) * 40]), all_keepers, FORTY)
        look_at_answer(self, web_of(1, [(1,) * 60]), all_keepers, (1, ((1, 2, 0, 4, 5, 6, 3, 8, 9, 10, 11, 7),)))


class BookOf(unittest.TestCase):
    def test_rooms_are_places(self):
        rng = random.Random(8)
        webs = [WHOLE, EVEN, whole(4), web_of(1, [(1,) * 40])]
        webs += [some_web(letters, count, rng) for letters in (2, 3, 4) for count in (2, 5, 12, 40)]
        for web in webs:
            letters, rows = web
            book = (letters, tuple(tuple(row[at] for row in rows) for at in range(letters)))
            look_at_answer(self, book, book_of, web)
            self.assertTrue(is_book(book))
            look_at_answer(self, web, keepers, book, 0)
            for walk in basis(web)[:20]:
                self.assertEqual(slow_led(book, 0, walk), 0)
                self.assertTrue(belongs(web, slow_back(walk)))

    def test_open_doors(self):
        for web in (HALF, NOTHING, nothing(1), web_of(2, [(1,) * 60]), web_of(4, [(1,), (2,), (3,)])):
            look_at_refusal(self, OpenDoor, web, book_of, [web])
            look_at_refusal(self, OpenDoor, web, book_of, [web], ["web"])


class WrongArguments(unittest.TestCase):
    PLACES = [-1, 3, 10 ** 59, -10 ** 59, True, False]

    def test_books_and_walks(self):
        for function in (turn_of, times_round, circles):
            look_at_refusals(self, function, ("book", "book", THREE), ("walk", "walk", (1, 2)))
        look_at_refusals(
            self, place_after, ("book", "book", THREE), ("place", self.PLACES, 2), ("walk", "walk", (1, 2))
        )
        look_at_refusals(self, short_turn, ("book", "book", THREE), ("short", "short", (((1, 2), 3),)))

    def test_books_and_places(self):
        look_at_refusals(self, keepers, ("book", "book", THREE), ("place", self.PLACES, 2))
        for function in (parts, all_keepers):
            look_at_refusals(self, function, ("book", "book", THREE))

    def test_webs(self):
        look_at_refusals(self, book_of, ("web", "web", EVEN))

    def test_all_small_books(self):
        # Of all tuples of so few places just those with each place once are books.
        for turn in itertools.product(range(-1, 4), repeat=3):
            look_at_answer(self, sorted(turn) == [0, 1, 2], is_book, (2, ((2, 0, 1), turn)))


if __name__ == "__main__":
    unittest.main()
