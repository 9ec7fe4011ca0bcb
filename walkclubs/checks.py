"""What is asked of arguments, and how refused ones are kept in errors."""

from walkclubs.errors import InvalidLetters, InvalidNumber, InvalidWalk

MOST_LETTERS = 4


def is_integer(value):
    """Whether any object is an integer; True and False are none here."""
    return isinstance(value, int) and not isinstance(value, bool)


def is_letters(value):
    """Whether any object is a number of letters."""
    return is_integer(value) and 1 <= value <= MOST_LETTERS


def is_step_of(letters, value):
    """Whether any object is a step along one of so many letters."""
    return is_integer(value) and value != 0 and -letters <= value <= letters


def is_walk_of(letters, value):
    """Whether any object is a walk of so many letters; writings by so many walks have the same form."""
    return isinstance(value, tuple) and all([is_step_of(letters, step) for step in value])


def anew(value):
    """An object with its lists and tuples built anew: errors share no list with the arguments."""
    if isinstance(value, list):
        return [anew(part) for part in value]
    if isinstance(value, tuple):
        return tuple([anew(part) for part in value])
    return value


def check_letters(letters):
    """Refuses what is no number of letters."""
    if not is_letters(letters):
        raise InvalidLetters(anew(letters))


def check_walk(letters, walk):
    """Refuses what is no walk of so many letters."""
    if not is_walk_of(letters, walk):
        raise InvalidWalk(anew(walk))


def check_walks(letters, walks):
    """Refuses the first entry of a list that is no walk of so many letters."""
    for walk in walks:
        check_walk(letters, walk)


def check_least(number, least):
    """Refuses an integer below the least one that is told."""
    if not is_integer(number) or number < least:
        raise InvalidNumber(anew(number))


def check_within(number, least, greatest):
    """Refuses an integer that is not from the least to the greatest one that are told."""
    if not is_integer(number) or number < least or number > greatest:
        raise InvalidNumber(anew(number))
