"""Desks: lines of text that work on a live web, and texts that answer them."""

from walkclubs.checks import anew
from walkclubs.errors import InvalidCommand, NotReady, Unlike
from walkclubs.liveweb import Live
from walkclubs.reading import number_in, short_in, walk_in, web_in
from walkclubs.shorts import short_belongs
from walkclubs.sums import lattice
from walkclubs.texts import rows_text, show_web

ALONE = ("undo", "begin", "keep", "drop", "show", "lattice")
WITH_WALK = ("put", "turn", "belongs", "room")
LOOKS = ("show", "belongs", "far", "room", "lattice")
DONE = "ok"


def value_in(word, text):
    """What the text behind the first word of a line tells; None if nothing that may stand there."""
    if word == "letters":
        return number_in(text)
    if word == "cut":
        return web_in(text)
    if word == "far":
        return short_in(text)
    return walk_in(text) if word in WITH_WALK else None


def command_in(line):
    """The tuple (word, value) of a line, the value None of a word alone; None if any object is no such line."""
    if not isinstance(line, str):
        return None
    if line in ALONE:
        return line, None
    word, _, text = line.partition(" ")
    value = value_in(word, text)
    return None if value is None else (word, value)


def deed_answer(live, word, value):
    """Does what changes a live web; the text that answers it."""
    if word == "put":
        return str(live.put(value))
    if word == "turn":
        return str(live.turn(value))
    if word == "cut":
        return str(live.cut(value))
    if word == "undo":
        return live.undo()
    if word == "begin":
        live.begin()
    elif word == "keep":
        live.keep()
    else:
        live.drop()
    return DONE


def look_answer(live, word, value):
    """The text that answers what only looks at a live web."""
    if word == "show":
        return show_web(live.web)
    if word == "lattice":
        rows = lattice(live.web)
        return rows_text(rows) if rows else "-"
    if word == "room":
        room = live.room_after(value)
        return "-" if room is None else str(room)
    if word == "far":
        letters, short = value
        if letters != live.letters:
            raise Unlike(letters)
        return "yes" if short_belongs(live.web, short) else "no"
    return "yes" if live.belongs(value) else "no"


class Desk:
    """What lines of text are told to, one by one; it works on one live web at a time."""

    def __init__(self):
        self.live = None

    def execute(self, line):
        """Does what a line tells; the text that answers it."""
        command = command_in(line)
        if command is None:
            raise InvalidCommand(anew(line))
        word, value = command
        if word == "letters":
            self.live = Live(value)
            return DONE
        if self.live is None:
            raise NotReady(None)
        if word in LOOKS:
            return look_answer(self.live, word, value)
        return deed_answer(self.live, word, value)
