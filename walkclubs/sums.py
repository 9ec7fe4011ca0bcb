"""Sums of walks: how often each letter is done forward, less how often back; and what is so of those of clubs."""

from walkclubs.bases import basis_walks
from walkclubs.checks import anew, check_letters, check_walk, is_integer
from walkclubs.errors import InvalidRows, InvalidSums
from walkclubs.lattices import (
    all_nearer, bars_of, classes_of, least_rows, less_leading, nearer, plus, product_of, stepped,
)
from walkclubs.walks import steps_of, straightened, turned_back, walk_order
from walkclubs.webs import checked_table, numbered

MOST_CLASSES = 60


def is_sums(letters, value):
    """Whether any object is a tuple of as many integers as letters."""
    return isinstance(value, tuple) and len(value) == letters and all([is_integer(number) for number in value])


def check_sums(letters, wanted):
    """Refuses what is no tuple of as many integers as letters."""
    if not is_sums(letters, wanted):
        raise InvalidSums(anew(wanted))


def sums_of(letters, walk):
    """The sums of a walk."""
    return tuple([walk.count(letter) - walk.count(-letter) for letter in range(1, letters + 1)])


def lattice_of(web, table):
    """The least rows of the sums of the walks of a club."""
    return least_rows(web[0], [sums_of(web[0], walk) for walk in basis_walks(web, table)])


def walks_that_count(letters, walks):
    """Some of a list of walks, shorter ones rather than longer ones, the lattice of whose sums is that of all."""
    kept, least = [], []
    for walk in sorted(walks, key=walk_order):
        wider = least_rows(letters, least + [sums_of(letters, walk)])
        if wider != least:
            kept.append(walk)
            least = wider
    return kept


def times_wanted(letters, walks, wanted):
    """How many times each of some walks is done so that their sums are those wanted; None if they never are."""
    # Behind its sums each row has how many times each walk is done.
    count = len(walks)
    rows = [sums_of(letters, walk) + (0,) * at + (1,) + (0,) * (count - at - 1) for at, walk in enumerate(walks)]
    leading, left = stepped(rows, letters)
    row = less_leading(wanted + (0,) * count, leading)
    if row[:letters] != (0,) * letters:
        return None
    # What is left has no sums: without multiples of it the walk is often very much shorter.
    times = nearer(row[letters:], all_nearer([other[letters:] for other in left]))
    return [-number for number in times]


def bars_sums(least, wanted, bar):
    """Whether a tuple (modulus, factors) bars what is wanted from the lattice with these least rows."""
    modulus, factors = bar
    rests = [product_of(factors, row) for row in least + [wanted]]
    if modulus > 0:
        rests = [rest % modulus for rest in rests]
    return rests[-1] != 0 and all([rest == 0 for rest in rests[:-1]])


def table_of_classes(letters, least):
    """For each class of sums a dict of the classes to which each step leads; the least rows tell of each place."""
    table = {}
    waiting = [(0,) * letters]
    while waiting:
        sums_there = waiting.pop()
        if sums_there not in table:
            table[sums_there] = {
                step: less_leading(plus(sums_there, 1, sums_of(letters, (step,))), least) for step in steps_of(letters)
            }
            waiting.extend(list(table[sums_there].values()))
    return table


def sums(letters, walk):
    """The tuple of how often a walk does each letter, forward less back."""
    check_letters(letters)
    check_walk(letters, walk)
    return sums_of(letters, walk)


def lattice(web):
    """The least rows of the sums of the walks of a club."""
    return lattice_of(web, checked_table(web))


def sums_index(web):
    """How many classes of sums there are by the lattice of a club; None if endlessly many."""
    table = checked_table(web)
    return classes_of(web[0], lattice_of(web, table))


def walk_with_sums(web, wanted):
    """A walk of a club with these sums; None if there is none."""
    table = checked_table(web)
    check_sums(web[0], wanted)
    walks = walks_that_count(web[0], basis_walks(web, table))
    times = times_wanted(web[0], walks, wanted)
    if times is None:
        return None
    steps = []
    for number, walk in zip(times, walks):
        steps.extend((walk if number > 0 else turned_back(walk)) * abs(number))
    return straightened(steps)


def sums_bar(web, wanted):
    """A tuple (modulus, factors) that bars these sums from all walks of a club; None if one has them."""
    table = checked_table(web)
    check_sums(web[0], wanted)
    least = lattice_of(web, table)
    bars = [bar for bar in bars_of(web[0], least) if bars_sums(least, wanted, bar)]
    return bars[0] if bars else None


def sums_barred(web, wanted, value):
    """Whether any object is a tuple (modulus, factors) that bars these sums from all walks of a club."""
    table = checked_table(web)
    check_sums(web[0], wanted)
    if not isinstance(value, tuple) or len(value) != 2:
        return False
    modulus, factors = value
    if not is_integer(modulus) or modulus < 0 or not is_sums(web[0], factors):
        return False
    return bars_sums(lattice_of(web, table), wanted, value)


def web_of_sums(letters, rows):
    """The web of the club of all walks whose sums are in the lattice of a list of rows."""
    check_letters(letters)
    if not isinstance(rows, list) or not all([is_sums(letters, row) for row in rows]):
        raise InvalidRows(anew(rows))
    least = least_rows(letters, rows)
    many = classes_of(letters, least)
    if many is None or many > MOST_CLASSES:
        raise InvalidRows(anew(rows))
    return numbered(letters, table_of_classes(letters, least), (0,) * letters)
