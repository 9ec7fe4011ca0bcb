"""[39]: texts, and walkclubs/texts.py."""

import random
import unittest

from tests.helpers import (
    EVEN, HALF, NOTHING, WHOLE, look_at_answer, look_at_refusal, look_at_refusals, some_book, some_shorts, some_walk,
    some_web, webs_with,
)
from walkclubs.errors import InvalidShort
from walkclubs.texts import show_book, show_short, show_walk, show_web
from walkclubs.webs import nothing, web_of, whole


def spaced(row):
    return " ".join(map(str, row))


class Examples(unittest.TestCase):
    def test_of_the_document(self):
        look_at_answer(self, "1 -2", show_walk, (1, -2))
        look_at_answer(self, "2: 1 0 / 0 .", show_web, HALF)
        look_at_answer(self, "2: 1 ^ 10; 2 1 ^ -3", show_short, 2, (((1,), 10), ((2, 1), -3)))
        look_at_answer(self, "2: 1 0 / 0 1", show_book, (2, ((1, 0), (0, 1))))

    def test_by_name(self):
        look_at_answer(self, "1 -2", show_walk, walk=(1, -2))
        look_at_answer(self, "2: 1 0 / 0 .", show_web, web=HALF)
        look_at_answer(self, "2: 1 ^ 10; 2 1 ^ -3", show_short, short=(((1,), 10), ((2, 1), -3)), letters=2)
        look_at_answer(self, "2: 1 0 / 0 1", show_book, book=(2, ((1, 0), (0, 1))))


class Texts(unittest.TestCase):
    def test_walks(self):
        rng = random.Random(1)
        for length in (1, 2, 5, 60, 400):
            for letters in (1, 2, 3, 4):
                walk = some_walk(letters, length, rng)
                look_at_answer(self, spaced(walk), show_walk, walk)
        for expected, walk in [
            ("-", ()), ("1", (1,)), ("-4", (-4,)), ("1 -1", (1, -1)), ("3 -3 4 4 -2", (3, -3, 4, 4, -2)),
            ("-1 -2 -3 -4", (-1, -2, -3, -4)),
        ]:
            look_at_answer(self, expected, show_walk, walk)

    def test_webs(self):
        for letters in (1, 2, 3, 4):
            for web in webs_with(letters, letters):
                rows = [spaced("." if after < 0 else after for after in row) for row in web[1]]
                look_at_answer(self, f"{letters}: " + " / ".join(rows), show_web, web)
        for expected, web in [
            ("2: . .", NOTHING), ("2: 0 0", WHOLE), ("2: 1 0 / 0 1", EVEN), ("1: .", nothing(1)), ("1: 0", whole(1)),
            ("4: 0 0 0 0", whole(4)), ("3: 1 . . / . 2 . / . . 0", web_of(3, [(1, 2, 3)])),
            ("2: 1 . / . 2 / 0 .", web_of(2, [(1, 2, 1)])),
            ("1: " + " / ".join(map(str, [1, 3, 0, 5, 2, 6, 4])), web_of(1, [(1,) * 7])),
        ]:
            look_at_answer(self, expected, show_web, web)
        self.assertEqual(len(show_web(some_web(4, 60, random.Random(2))).split(" / ")), 60)

    def test_shorts(self):
        for letters in (1, 2, 3, 4):
            for short in some_shorts(letters, letters):
                parts = [(spaced(walk) or "-") + " ^ " + str(times) for walk, times in short]
                look_at_answer(self, f"{letters}: " + ("; ".join(parts) or "-"), show_short, letters, short)
        for expected, letters, short in [
            ("2: -", 2, ()), ("4: -", 4, ()), ("2: - ^ 1", 2, (((), 1),)),
            ("1: - ^ -5; 1 ^ 1", 1, (((), -5), ((1,), 1))),
            ("1: 1 -1 ^ 2", 1, (((1, -1), 2),)), ("3: 1 ^ 1; -1 ^ 1", 3, (((1,), 1), ((-1,), 1))),
            ("2: 1 ^ 1" + "0" * 30 + "; -2 ^ -1" + "0" * 30, 2, (((1,), 10 ** 30), ((-2,), -10 ** 30))),
        ]:
            look_at_answer(self, expected, show_short, letters, short)
        look_at_answer(self, "1: " + "; ".join(["1 ^ 2"] * 60), show_short, 1, (((1,), 2),) * 60)

    def test_books(self):
        rng = random.Random(3)
        for letters in (1, 2, 3, 4):
            for count in (1, 2, 3, 11, 40):
                book = some_book(letters, count, rng)
                look_at_answer(self, f"{letters}: " + " / ".join(map(spaced, book[1])), show_book, book)
        look_at_answer(self, "1: 0", show_book, (1, ((0,),)))
        look_at_answer(self, "4: 0 / 0 / 0 / 0", show_book, (4, ((0,),) * 4))
        look_at_answer(self, "3: 1 0 2 / 0 2 1 / 2 0 1", show_book, (3, ((1, 0, 2), (0, 2, 1), (2, 0, 1))))


class WrongArguments(unittest.TestCase):
    def test_each(self):
        look_at_refusals(self, show_walk, ("walk", "walk of four", (1,)))
        look_at_refusals(self, show_web, ("web", "web", HALF))
        look_at_refusals(self, show_short, ("letters", "letters", 2), ("short", "short", ()))
        look_at_refusals(self, show_book, ("book", "book", EVEN))
        look_at_refusal(self, InvalidShort, (((2,), 1),), show_short, [1, (((2,), 1),)])
        look_at_refusal(self, InvalidShort, (((1,), 1), ((), 0)), show_short, [4, (((1,), 1), ((), 0))])


if __name__ == "__main__":
    unittest.main()
