"""[40]: reading, and walkclubs/reading.py."""

import random
import re
import unittest

from tests.helpers import (
    BAD_BOOKS, BAD_SHORTS, BAD_WALKS, BAD_WEBS, EVEN, HALF, NOTHING, ODD_OBJECTS, WHOLE, look_at_answer,
    look_at_refusal, some_book, some_shorts, some_walk, some_web, webs_with,
)
from walkclubs.errors import Unreadable
from walkclubs.reading import read_book, read_short, read_walk, read_web
from walkclubs.shorts import is_short
from walkclubs.texts import show_book, show_short, show_walk, show_web
from walkclubs.turns import is_book
from walkclubs.webs import is_web, nothing, web_of, whole

SIGNS = " -0123456789.:/;^+,_\n\tx"
NUMBER = "(?:0|-?[1-9][0-9]{0,59})"
ROW = f"{NUMBER}(?: {NUMBER})*"
WALK = f"(?:-|{ROW})"
PART = f"{WALK} \\^ {NUMBER}"
READERS = (read_walk, read_web, read_short, read_book)


def numbers(text):
    return () if text == "-" else tuple(int(word) for word in text.split())


def slow_walk(text):
    """By a pattern of all texts, of walks or not."""
    if not re.fullmatch(WALK, text):
        return None
    walk = numbers(text)
    return walk if all(1 <= abs(step) <= 4 for step in walk) else None


def slow_web_read(text):
    room = "(?:0|[1-9][0-9]{0,59}|\\.)"
    row = f"{room}(?: {room})*"
    if not re.fullmatch(f"{NUMBER}: {row}(?: / {row})*", text):
        return None
    letters, rows = text.split(": ")
    web = (int(letters), tuple(numbers(row.replace(".", "-1")) for row in rows.split(" / ")))
    return web if is_web(web) else None


def slow_short(text):
    if not re.fullmatch(f"[1-4]: (?:-|{PART}(?:; {PART})*)", text):
        return None
    letters, parts = text.split(": ")
    rows = [] if parts == "-" else [part.split(" ^ ") for part in parts.split("; ")]
    short = tuple((numbers(walk), int(times)) for walk, times in rows)
    return (int(letters), short) if is_short(int(letters), short) else None


def slow_book(text):
    if not re.fullmatch(f"{NUMBER}: {ROW}(?: / {ROW})*", text):
        return None
    letters, turns = text.split(": ")
    book = (int(letters), tuple(numbers(turn) for turn in turns.split(" / ")))
    return book if is_book(book) else None


def near(text):
    """All texts that have one sign more, less, or another one."""
    for at in range(len(text) + 1):
        yield text[:at] + text[at + 1:]
        for sign in SIGNS:
            yield text[:at] + sign + text[at:]
            yield text[:at] + sign + text[at + 1:]
    for one, other in ((" ", "  "), (" ", "\t"), (" ", ""), (": ", ":"), (" / ", "/"), ("; ", ";"), (" ^ ", "^"),
                       ("1", "01"), ("1", "+1"), ("0", "-0"), (".", "-1"), ("-1", "."), ("1", "1.0"), ("1", "\u0661"),
                       ("2", "\u00b2"), ("1", "1_0"), ("1", "0x1"), (" ", "\u00a0"), ("-", "\u2212"), ("1", "\uff11")):
        if one in text:
            yield text.replace(one, other)
            yield text.replace(one, other, 1)
    yield from (text + " ", " " + text, text + "\n", text + " /", text + ";", text + " ^", text + " / ", text + "; ",
                text.upper() + "a", text + text, text + " " + text, "2: " + text, text[::-1])


def look_at_text(case, reader, slow, text):
    """A text is read as the pattern tells, or refused."""
    value = slow(text)
    if value is None:
        look_at_refusal(case, Unreadable, text, reader, [text])
    else:
        look_at_answer(case, value, reader, text)


class Examples(unittest.TestCase):
    def test_of_the_document(self):
        look_at_answer(self, (1, -1), read_walk, "1 -1")
        look_at_answer(self, (1, -2), read_walk, "1 -2")
        look_at_answer(self, HALF, read_web, "2: 1 0 / 0 .")
        look_at_answer(self, (2, (((1,), 10), ((2, 1), -3))), read_short, "2: 1 ^ 10; 2 1 ^ -3")
        look_at_answer(self, EVEN, read_book, "2: 1 0 / 0 1")

    def test_by_name(self):
        look_at_answer(self, (1, -2), read_walk, text="1 -2")
        look_at_answer(self, HALF, read_web, text="2: 1 0 / 0 .")
        look_at_answer(self, (2, ()), read_short, text="2: -")
        look_at_answer(self, EVEN, read_book, text="2: 1 0 / 0 1")


class ReadAgain(unittest.TestCase):
    def test_walks(self):
        rng = random.Random(1)
        for length in (0, 1, 2, 3, 10, 60, 400):
            for letters in (1, 2, 3, 4):
                walk = some_walk(letters, length, rng)
                look_at_answer(self, walk, read_walk, show_walk(walk))
        for walk in ((), (1,), (-4,), (1, -1), (2, -2, 2, -2, 3)):
            look_at_answer(self, walk, read_walk, show_walk(walk))

    def test_webs(self):
        webs = [NOTHING, WHOLE, HALF, EVEN, some_web(4, 60, random.Random(2)), web_of(2, [(1,) * 60]), nothing(4)]
        for web in webs + [web for letters in (1, 2, 3, 4) for web in webs_with(letters, letters)]:
            look_at_answer(self, web, read_web, show_web(web))

    def test_shorts(self):
        for letters in (1, 2, 3, 4):
            own = [(), (((), 1),), (((), -10 ** 30), ((1,), 10 ** 30)), (((1, -1), 1), ((1,), -1)), (((1,), 1),) * 60]
            for short in own + some_shorts(letters, letters):
                look_at_answer(self, (letters, short), read_short, show_short(letters, short))

    def test_books(self):
        rng = random.Random(3)
        for letters in (1, 2, 3, 4):
            for count in (1, 2, 3, 10, 11, 40):
                book = some_book(letters, count, rng)
                look_at_answer(self, book, read_book, show_book(book))


class NearMisses(unittest.TestCase):
    def test_walks(self):
        for text in ("-", "1", "-4", "1 -1", "2 -3 4", "-1 -2"):
            for other in sorted({text, *near(text)}):
                look_at_text(self, read_walk, slow_walk, other)

    def test_webs(self):
        for text in ("2: 1 0 / 0 .", "1: .", "1: 0", "2: . .", "1: 1 / 2 / 0", "3: 1 . . / . 2 . / . . 0"):
            for other in sorted({text, *near(text)}):
                look_at_text(self, read_web, slow_web_read, other)

    def test_shorts(self):
        for text in ("2: -", "2: 1 ^ 10; 2 1 ^ -3", "1: - ^ 1", "4: 4 -4 ^ -1; - ^ 2", "1: 1 ^ 1" + "0" * 30):
            for other in sorted({text, *near(text)}):
                look_at_text(self, read_short, slow_short, other)

    def test_books(self):
        for text in ("2: 1 0 / 0 1", "1: 0", "1: 1 2 0", "3: 0 / 0 / 0", "1: 10 0 1 2 3 4 5 6 7 8 9"):
            for other in sorted({text, *near(text)}):
                look_at_text(self, read_book, slow_book, other)

    def test_texts_of_other_values(self):
        texts = ["-", "1", "1 2", "2: -", "2: 1 ^ 2", "2: 1 0 / 0 1", "2: 1 0 / 0 .", "", " ", ":", ": ", "2: ", "2",
                 "2:", "/", " / ", "; ", " ^ ", "2:  / ", "2: 1 ^", "2: ^ 1", "2: 1 ^ 1 ^ 1", "2: 1 ^ 1; ", "- -",
                 "2: 2: 1 ^ 1", "2: 1 0: 0 1", "2: - / -", "2: - -", "2: -; 1 ^ 1", "2: - - ^ 1", "1 -", "- 1"]
        for text in texts:
            for reader, slow in zip(READERS, (slow_walk, slow_web_read, slow_short, slow_book)):
                look_at_text(self, reader, slow, text)

    def test_great_numbers(self):
        for figures in (31, 59, 60, 61, 62, 1000, 4300, 4301, 10000):
            for number in ("1" * figures, "-" + "1" * figures, "0" * figures, "1" + "0" * (figures - 1)):
                for reader, text in (
                    (read_walk, number), (read_walk, f"1 {number}"), (read_web, f"{number}: 0"),
                    (read_web, f"1: {number}"), (read_short, f"{number}: -"), (read_short, f"2: {number} ^ 1"),
                    (read_book, f"1: {number}"), (read_book, f"{number}: 0"),
                ):
                    look_at_refusal(self, Unreadable, text, reader, [text])
        for times in (10 ** 30, -10 ** 30):
            look_at_answer(self, (2, (((1,), times),)), read_short, f"2: 1 ^ {times}")
        for times in (10 ** 30 + 1, -10 ** 30 - 1, 10 ** 60 - 1, 10 ** 60, -10 ** 61):
            look_at_refusal(self, Unreadable, f"2: 1 ^ {times}", read_short, [f"2: 1 ^ {times}"])


class Values(unittest.TestCase):
    def test_texts_of_what_is_none(self):
        # What the functions of texts.py would tell if they refused nothing.
        for bad in BAD_WALKS:
            if isinstance(bad, tuple) and all(type(step) is int for step in bad):
                text = " ".join(map(str, bad)) or "-"
                look_at_text(self, read_walk, slow_walk, text)
        for bad in BAD_WEBS + BAD_BOOKS:
            if isinstance(bad, tuple) and len(bad) == 2 and isinstance(bad[1], tuple):
                rows = [row if isinstance(row, (tuple, list)) else (row,) for row in bad[1]]
                doors = [["." if after == -1 else after for after in row] for row in rows]
                text = f"{bad[0]}: " + " / ".join(" ".join(map(str, row)) for row in doors)
                look_at_text(self, read_web, slow_web_read, text)
                text = f"{bad[0]}: " + " / ".join(" ".join(map(str, row)) for row in rows)
                look_at_text(self, read_book, slow_book, text)
        for bad in BAD_SHORTS:
            if isinstance(bad, tuple) and bad and all(isinstance(part, tuple) and len(part) == 2 for part in bad):
                parts = [(" ".join(map(str, walk)) if isinstance(walk, (tuple, list)) else str(walk)) + f" ^ {times}"
                         for walk, times in bad]
                look_at_text(self, read_short, slow_short, "2: " + "; ".join(parts))
        for text in ("2: " + "; ".join(["1 ^ 2"] * 61), "0: -", "5: -", "-1: -", "1: 2 ^ 1", "2: 1 ^ 0"):
            look_at_refusal(self, Unreadable, text, read_short, [text])
        text = "1: " + " ".join(map(str, [*range(1, 41), 0]))
        look_at_refusal(self, Unreadable, text, read_book, [text])

    def test_any_object(self):
        row = [1]
        others = [(row, [row, row]), [row, (row,)], b"1", b"-", ("1",), ["1"], (1, -1), HALF, EVEN]
        for reader in READERS:
            for bad in [*ODD_OBJECTS, *BAD_WEBS, *others]:
                if not isinstance(bad, str):
                    look_at_refusal(self, Unreadable, bad, reader, [bad])
                    look_at_refusal(self, Unreadable, bad, reader, [bad], ["text"])
        look_at_answer(self, whole(2), read_web, "2: 0 0")


if __name__ == "__main__":
    unittest.main()
