"""Lattices: all sums of multiples of some rows, each a tuple of as many integers as the others."""

def plus(row, times, other):
    """A row and so many times another one."""
    return tuple([number + times * more for number, more in zip(row, other)])


def product_of(row, other):
    """The sum of the products of the numbers of two rows, place by place."""
    return sum([number * more for number, more in zip(row, other)])


def leading_place(row):
    """The first place at which a row is not 0."""
    place = 0
    while row[place] == 0:
        place += 1
    return place


def stepped(rows, width):
    """The tuple (leading, left) of rows with the same lattice: of the leading ones each begins at a later place.

    The rows that are left are 0 in the first places, so many as width tells.
    """
    leading, left = [], list(rows)
    for place in range(width):
        others = [row for row in left if row[place]]
        left = [row for row in left if not row[place]]
        while len(others) > 1:
            least = min(others, key=lambda row: abs(row[place]))
            others.remove(least)
            rests = [plus(row, -(row[place] // least[place]), least) for row in others]
            left.extend([row for row in rests if not row[place]])
            others = [least] + [row for row in rests if row[place]]
        leading.extend(others)
    return leading, left


def least_rows(letters, rows):
    """The least rows of the lattice of some rows."""
    found = []
    for row in stepped(rows, letters)[0]:
        place = leading_place(row)
        first = tuple([-number for number in row]) if row[place] < 0 else row
        found = [plus(other, -(other[place] // first[place]), first) for other in found] + [first]
    return found


def less_leading(row, leading):
    """What is left of a row if multiples of rows that begin at later and later places are taken away."""
    for other in leading:
        place = leading_place(other)
        row = plus(row, -(row[place] // other[place]), other)
    return row


def classes_of(letters, least):
    """How many classes there are by a lattice with these least rows; None if endlessly many."""
    if len(least) < letters:
        return None
    many = 1
    for place, row in enumerate(least):
        many *= row[place]
    return many


def nearer(row, others):
    """A row less multiples of other ones, as near to 0 as each of them alone can bring it."""
    changed = True
    while changed:
        changed = False
        for other in others:
            size, part = product_of(other, other), product_of(row, other)
            if 2 * abs(part) > size:
                row = plus(row, -((2 * part + size) // (2 * size)), other)
                changed = True
    return row


def all_nearer(rows):
    """Rows with the same lattice, each brought nearer to 0 by the other ones."""
    found, met = list(rows), []
    while found != met:
        met = list(found)
        for place in range(len(found)):
            found[place] = nearer(found[place], found[:place] + found[place + 1:])
    return found


def with_factors(least, factors, products):
    """Factors, told but at the places at which least rows begin, of which the products with these rows are told."""
    told = list(factors)
    for row, number in reversed(list(zip(least, products))):
        told[leading_place(row)] = (number - product_of(row, told)) // row[leading_place(row)]
    return tuple(told)


def bars_of(letters, least):
    """A list of tuples (modulus, factors): each row that is not in a lattice with these least rows is barred by one.

    The products of the factors with all rows of the lattice are multiples of the modulus, that with the other row not.
    """
    begun = [leading_place(row) for row in least]
    number = 1
    for row, place in zip(least, begun):
        number *= row[place]
    bars = []
    for place in range(letters):
        # A multiple of all first numbers leaves no rest when factors are worked out of it.
        factors = [number if place == at and at not in begun else 0 for at in range(letters)]
        products = [number if place == at else 0 for at in begun]
        bars.append((number if place in begun else 0, with_factors(least, factors, products)))
    return bars
