"""Books of turns: for each letter where it leads some places, each of them to another one or to itself."""

from math import lcm

from walkclubs.checks import anew, check_walk, check_within, is_integer, is_letters
from walkclubs.cosets import is_closed
from walkclubs.errors import InvalidBook, OpenDoor, TooMany
from walkclubs.shorts import check_short
from walkclubs.webs import checked_table, first_reached, numbered

MOST_PLACES = 40
MOST_ROOMS = 60


def is_turn(value):
    """Whether any object is a tuple of 1 to 40 places in which each of the places 0, 1, .. stands once."""
    if not isinstance(value, tuple) or not 1 <= len(value) <= MOST_PLACES:
        return False
    return all([is_integer(place) for place in value]) and sorted(value) == list(range(len(value)))


def check_book(book):
    """Refuses what is no book of turns."""
    if not is_book(book):
        raise InvalidBook(anew(book))


def check_place(book, place):
    """Refuses an integer that is no place of a book."""
    check_within(place, 0, len(book[1][0]) - 1)


def back_of(turn):
    """The turn that leads each place back to where a turn leads it from."""
    places = [0 for _ in turn]
    for place, after in enumerate(turn):
        places[after] = place
    return tuple(places)


def turns_by_steps(book):
    """A dict of the turns of all steps."""
    turns = {}
    for letter, turn in enumerate(book[1], start=1):
        turns[letter] = turn
        turns[-letter] = back_of(turn)
    return turns


def place_led(turns, place, walk):
    """The place to which a walk leads a place; turns: those of all steps."""
    for step in walk:
        place = turns[step][place]
    return place


def led(turn, other):
    """The turn that leads each place by the one turn, and then by the other one."""
    return tuple([other[place] for place in turn])


def turn_behind(book, walk):
    """The turn of a walk."""
    turns = turns_by_steps(book)
    turn = tuple(range(len(book[1][0])))
    for step in walk:
        turn = led(turn, turns[step])
    return turn


def circles_of(turn):
    """The ascending list of the circles of a turn, each from its least place on as it leads them."""
    found, met = [], {}
    for place in range(len(turn)):
        circle = []
        while place not in met:
            met[place] = True
            circle.append(place)
            place = turn[place]
        if circle:
            found.append(circle)
    return found


def turn_many_times(turn, times):
    """The turn that leads each place as a turn does if it is done so many times."""
    places = [0 for _ in turn]
    for circle in circles_of(turn):
        for at, place in enumerate(circle):
            places[place] = circle[(at + times) % len(circle)]
    return tuple(places)


def table_of(book):
    """For each place a dict of where each step leads it."""
    turns = turns_by_steps(book)
    return [{step: turn[place] for step, turn in turns.items()} for place in range(len(book[1][0]))]


def turns_met(book):
    """A dict that has, for each turn of a walk, a dict of the turns of that walk with each step behind it."""
    turns = turns_by_steps(book)
    table = {}
    waiting = [tuple(range(len(book[1][0])))]
    while waiting:
        turn = waiting.pop()
        if turn not in table:
            table[turn] = {step: led(turn, other) for step, other in turns.items()}
            waiting.extend(list(table[turn].values()))
    return table


def is_book(value):
    """Whether any object is a book of turns."""
    if not isinstance(value, tuple) or len(value) != 2:
        return False
    letters, turns = value
    if not is_letters(letters) or not isinstance(turns, tuple) or len(turns) != letters:
        return False
    return all([is_turn(turn) for turn in turns]) and all([len(turn) == len(turns[0]) for turn in turns])


def place_after(book, place, walk):
    """The place to which a walk leads a place."""
    check_book(book)
    check_place(book, place)
    check_walk(book[0], walk)
    return place_led(turns_by_steps(book), place, walk)


def turn_of(book, walk):
    """The tuple of where a walk leads each place."""
    check_book(book)
    check_walk(book[0], walk)
    return turn_behind(book, walk)


def short_turn(book, short):
    """The tuple of where the walk of a short writing leads each place."""
    check_book(book)
    check_short(book[0], short)
    turn = turn_behind(book, ())
    for walk, times in short:
        turn = led(turn, turn_many_times(turn_behind(book, walk), times))
    return turn


def times_round(book, walk):
    """The least number of times, from 1 on, that a walk is done until all places are kept."""
    check_book(book)
    check_walk(book[0], walk)
    times = 1
    for circle in circles_of(turn_behind(book, walk)):
        times = lcm(times, len(circle))
    return times


def circles(book, walk):
    """The ascending list of the ascending lists of the places that a walk leads to one another."""
    check_book(book)
    check_walk(book[0], walk)
    return [sorted(circle) for circle in circles_of(turn_behind(book, walk))]


def parts(book):
    """The ascending list of the ascending lists of the places that some walks lead to one another."""
    check_book(book)
    table = table_of(book)
    found, met = [], {}
    for place in range(len(table)):
        if place not in met:
            found.append(sorted(first_reached(book[0], table, place)))
            for other in found[-1]:
                met[other] = True
    return found


def keepers(book, place):
    """The web of the club of all walks that lead a place to itself."""
    check_book(book)
    check_place(book, place)
    return numbered(book[0], table_of(book), place)


def all_keepers(book):
    """The web of the club of all walks that keep each place."""
    check_book(book)
    table = turns_met(book)
    if len(table) > MOST_ROOMS:
        raise TooMany(len(table))
    return numbered(book[0], table, turn_behind(book, ()))


def book_of(web):
    """The book of turns whose places are the rooms of a web without an open door."""
    table = checked_table(web)
    letters, rows = web
    if not is_closed(letters, table):
        raise OpenDoor(anew(web))
    return letters, tuple([tuple([row[place] for row in rows]) for place in range(letters)])
