"""Webs without an open door: how many have so many rooms, all of them, and those around a club."""

from math import factorial

from walkclubs.checks import check_letters, check_within
from walkclubs.papers import book_of_pairs
from walkclubs.turns import table_of
from walkclubs.walks import steps_of
from walkclubs.webs import checked_table, is_laid_into, numbered, step_table

MOST_INDEX = 40


def check_index(letters, index):
    """Refuses what is no number of letters, and then what is no index."""
    check_letters(letters)
    check_within(index, 1, MOST_INDEX)


def orders_of(letters, count):
    """In how many ways so many places can be put in a sequence for each letter but the first one."""
    number = 1
    for _ in range(letters - 1):
        number *= factorial(count)
    return number


def first_door(letters, table):
    """The first tuple (room, step) that leads nowhere in a table; None if there is none."""
    for room, steps in enumerate(table):
        for step in steps_of(letters):
            if step not in steps:
                return room, step
    return None


def with_way(table, room, step, after):
    """A table with one way more, by which a step leads from a room to another one, or to a new one."""
    wider = [dict(steps) for steps in table]
    if after == len(wider):
        wider.append({})
    wider[room][step] = after
    wider[after][-step] = room
    return wider


def closed_tables(letters, most):
    """The tables of all webs without an open door that have at most so many rooms."""
    # The first door that is open leads to a room that is there already, or to the next one: so each web is met once,
    # with its rooms numbered by their first ways.
    found = []
    waiting = [[{}]]
    while waiting:
        table = waiting.pop()
        door = first_door(letters, table)
        if door is None:
            found.append(table)
        else:
            room, step = door
            afters = [after for after, steps in enumerate(table) if -step not in steps]
            if len(table) < most:
                afters.append(len(table))
            waiting.extend([with_way(table, room, step, after) for after in afters])
    return found


def webs_of_index(letters, index):
    """The ascending list of the webs without an open door that have so many rooms."""
    tables = [table for table in closed_tables(letters, index) if len(table) == index]
    return sorted([numbered(letters, table) for table in tables])


def turned_webs(web):
    """The ascending list of the webs into which walks turn a web without an open door."""
    table = step_table(web[1])
    webs = {numbered(web[0], table, room): True for room in range(len(table))}
    return sorted(webs)


def clubs_number(letters, index):
    """How many webs without an open door have so many rooms."""
    check_index(letters, index)
    numbers = [0]
    for count in range(1, index + 1):
        fewer = sum([orders_of(letters, count - other) * numbers[other] for other in range(1, count)])
        numbers.append(count * orders_of(letters, count) - fewer)
    return numbers[index]


def all_webs(letters, index):
    """The ascending list of the webs without an open door that have so many rooms."""
    check_index(letters, index)
    return webs_of_index(letters, index)


def turned_classes(letters, index):
    """The list of the ascending lists of the webs of an index that are turned into one another."""
    check_index(letters, index)
    classes, met = [], {}
    for web in webs_of_index(letters, index):
        if web not in met:
            classes.append(turned_webs(web))
            for other in classes[-1]:
                met[other] = True
    return classes


def kept_webs(letters, index):
    """The ascending list of the webs of an index that each walk turns into themselves."""
    check_index(letters, index)
    return [web for web in webs_of_index(letters, index) if len(turned_webs(web)) == 1]


def closings(web):
    """How many webs without an open door have as many rooms as a web and all its ways, in its rooms as they stand."""
    checked_table(web)
    number = 1
    for letter in range(web[0]):
        number *= factorial(len([row for row in web[1] if row[letter] < 0]))
    return number


def closed(web):
    """A web without an open door that has as many rooms as a web and all its ways."""
    table = checked_table(web)
    book = book_of_pairs(web[0], len(table), list(range(len(table))), table)
    return numbered(web[0], table_of(book))


def above(web, index):
    """The ascending list of the webs without an open door, of at most so many rooms, that all walks of a web keep."""
    table = checked_table(web)
    check_within(index, 1, MOST_INDEX)
    tables = [wider for wider in closed_tables(web[0], index) if is_laid_into(web, table, wider)]
    return sorted([numbered(web[0], wider) for wider in tables])
