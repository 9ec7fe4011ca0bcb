"""Texts of walks, webs, short writings and books of turns."""

from walkclubs.checks import MOST_LETTERS, check_letters, check_walk
from walkclubs.shorts import check_short
from walkclubs.turns import check_book
from walkclubs.webs import checked_table


def row_text(row):
    """The text of some integers, or of the texts of such."""
    return " ".join([str(number) for number in row])


def rows_text(rows):
    """The text of rows of integers, or of the texts of such."""
    return " / ".join([row_text(row) for row in rows])


def walk_text(walk):
    """The text of a walk as it stands."""
    return row_text(walk) if walk else "-"


def show_walk(walk):
    """The text of a walk as it stands."""
    check_walk(MOST_LETTERS, walk)
    return walk_text(walk)


def show_web(web):
    """The text of a web."""
    checked_table(web)
    letters, rows = web
    doors = [["." if after < 0 else after for after in row] for row in rows]
    return f"{letters}: {rows_text(doors)}"


def show_short(letters, short):
    """The text of a short writing as it stands."""
    check_letters(letters)
    check_short(letters, short)
    parts = "; ".join([f"{walk_text(walk)} ^ {times}" for walk, times in short])
    return f"{letters}: {parts}" if parts else f"{letters}: -"


def show_book(book):
    """The text of a book of turns."""
    check_book(book)
    letters, turns = book
    return f"{letters}: {rows_text(turns)}"
