"""Reading: the values whose texts these are, as the functions of texts.py tell them."""

from walkclubs.checks import anew, is_letters
from walkclubs.errors import Unreadable
from walkclubs.shorts import is_short_of
from walkclubs.turns import is_book
from walkclubs.walks import is_walk
from walkclubs.webs import is_web

MOST_FIGURES = 60
FIGURES = "0123456789"


def number_in(text):
    """The integer whose text this is; None if it is that of none of at most 60 figures."""
    figures = text[1:] if text[:1] == "-" else text
    if not 1 <= len(figures) <= MOST_FIGURES or not all([sign in FIGURES for sign in figures]):
        return None
    number = int(text)
    return number if str(number) == text else None


def numbers_in(text):
    """The tuple of the integers between single blanks; None for each text of none."""
    return tuple([number_in(word) for word in text.split(" ")])


def room_in(word):
    """The room whose text this is, -1 for an open door; None for the text of neither."""
    if word == ".":
        return -1
    return None if word == "-1" else number_in(word)


def walk_in(text):
    """The walk whose text this is; None if it is that of none."""
    walk = () if text == "-" else numbers_in(text)
    return walk if is_walk(walk) else None


def web_in(text):
    """The web whose text this is; None if it is that of none."""
    letters, _, rows = text.partition(": ")
    doors = tuple([tuple([room_in(word) for word in row.split(" ")]) for row in rows.split(" / ")])
    web = (number_in(letters), doors)
    return web if is_web(web) else None


def part_in(text):
    """The tuple (walk, times) of a part of a short writing; None for what it does not tell."""
    walk, _, times = text.partition(" ^ ")
    return walk_in(walk), number_in(times)


def short_in(text):
    """The tuple (letters, short) whose text this is; None if it is that of none."""
    letters, _, parts = text.partition(": ")
    number = number_in(letters)
    short = () if parts == "-" else tuple([part_in(part) for part in parts.split("; ")])
    return (number, short) if is_letters(number) and is_short_of(number, short) else None


def book_in(text):
    """The book of turns whose text this is; None if it is that of none."""
    letters, _, turns = text.partition(": ")
    book = (number_in(letters), tuple([numbers_in(turn) for turn in turns.split(" / ")]))
    return book if is_book(book) else None


def read_walk(text):
    """The walk whose text this is."""
    walk = walk_in(text) if isinstance(text, str) else None
    if walk is None:
        raise Unreadable(anew(text))
    return walk


def read_web(text):
    """The web whose text this is."""
    web = web_in(text) if isinstance(text, str) else None
    if web is None:
        raise Unreadable(anew(text))
    return web


def read_short(text):
    """The tuple (letters, short) whose text this is."""
    told = short_in(text) if isinstance(text, str) else None
    if told is None:
        raise Unreadable(anew(text))
    return told


def read_book(text):
    """The book of turns whose text this is."""
    book = book_in(text) if isinstance(text, str) else None
    if book is None:
        raise Unreadable(anew(text))
    return book
