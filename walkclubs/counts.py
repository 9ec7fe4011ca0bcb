"""Numbers of members, the straight walks that belong to a web: by lengths, in their order, and as a part of all."""

from walkclubs.checks import MOST_LETTERS, check_least, check_walk
from walkclubs.cosets import is_closed
from walkclubs.walks import once_round, step_place, straightened
from walkclubs.webs import checked_table, end_of, size_of_basis

# Numbers n for which 2 ** n - 1 is prime.
PRIME_EXPONENTS = (1279, 2203)


class Homeward:
    """How many straight walks lead home from each room: by their lengths, and by their first steps, too."""

    def __init__(self, table):
        self.doors = table
        self.totals = [1] + [0] * (len(table) - 1)
        self.by_steps = [{step: 0 for step in steps} for steps in table]
        self.levels = [(self.totals, self.by_steps)]

    def go_on(self):
        """Turns to walks that are one step longer."""
        # What goes on straight behind a step is all that goes on, but what begins with the opposite one.
        self.by_steps = [
            {step: self.totals[after] - self.by_steps[after][-step] for step, after in steps.items()}
            for steps in self.doors
        ]
        self.totals = [sum(list(many.values())) for many in self.by_steps]

    def keep_to(self, length):
        """Makes sure that the numbers of all lengths up to this one are kept."""
        while len(self.levels) <= length:
            self.go_on()
            self.levels.append((self.totals, self.by_steps))

    def many(self, length):
        """The number of members of a length."""
        self.keep_to(length)
        return self.levels[length][0][0]

    def choices(self, room, last, left):
        """The list of (step, how many walks of so many steps lead home by it), behind a last step, in their order."""
        many = self.levels[left][1][room]
        return [(step, many[step]) for step in sorted(many, key=step_place) if step != -last]

    def nth(self, number):
        """The n-th member; there must be so many."""
        length = 0
        while number >= self.many(length):
            number -= self.many(length)
            length += 1
        walk, room, last = [], 0, 0
        for left in range(length, 0, -1):
            choices, at = self.choices(room, last, left), 0
            while number >= choices[at][1]:
                number -= choices[at][1]
                at += 1
            last = choices[at][0]
            room = self.doors[room][last]
            walk.append(last)
        return tuple(walk)

    def ahead(self, walk):
        """How many members there are ahead of a straight walk."""
        number = sum([self.many(length) for length in range(len(walk))])
        self.keep_to(len(walk))
        room, last = 0, 0
        for at, step in enumerate(walk):
            choices = self.choices(room, last, len(walk) - at)
            number += sum([many for other, many in choices if step_place(other) < step_place(step)])
            if step not in self.doors[room]:
                return number
            room, last = self.doors[room][step], step
        return number


def member_numbers(table, length):
    """The numbers of members of all lengths from 0 to this one."""
    homeward = Homeward(table)
    numbers = [1]
    for _ in range(length):
        homeward.go_on()
        numbers.append(homeward.totals[0])
    return numbers


def inverse(number, prime):
    """What makes 1, but for multiples of a prime number, of a number that is none of them."""
    rest_one, rest_other, one, other = prime, number, 0, 1
    while rest_other > 1:
        times = rest_one // rest_other
        rest_one, rest_other = rest_other, rest_one - times * rest_other
        one, other = other, one - times * other
    return other


def taken_away(one, factor, other, prime):
    """The numbers of one list less a factor times those of another one, but for multiples of a prime number."""
    count = max(len(one), len(other))
    pairs = zip(one + [0] * (count - len(one)), other + [0] * (count - len(other)))
    return [(first - factor * second) % prime for first, second in pairs]


def rule_but_for(numbers, prime):
    """The factors of the shortest rule that numbers keep but for multiples of a prime number."""
    # Each time that the factors fail they are mended by those that failed last ahead of a longer rule. They are always
    # one more than the rule is long, as the first of them stands for the number that is told.
    factors, earlier, length, earlier_miss, shift = [1], [1], 0, 1, 1
    for place, number in enumerate(numbers):
        before = numbers[place - len(factors) + 1:place][::-1]
        miss = (number + sum([factor * other for factor, other in zip(factors[1:], before)])) % prime
        if miss:
            times = miss * inverse(earlier_miss, prime) % prime
            mended = taken_away(factors, times, [0] * shift + earlier, prime)
            if 2 * length <= place:
                length, earlier, earlier_miss, shift = place + 1 - length, factors, miss, 0
            factors = mended
        shift += 1
    return [-factor if 2 * factor < prime else prime - factor for factor in factors[1:]]


def keeps_rule(numbers, factors):
    """Whether each number behind the first ones is told by those ahead of it and the factors."""
    count = len(factors)
    return all([
        numbers[place] == sum([factor * numbers[place - 1 - at] for at, factor in enumerate(factors)])
        for place in range(count, len(numbers))
    ])


def shortest_rule(table):
    """The factors of the shortest rule that the numbers of members of the lengths from 1 on keep."""
    # All numbers of a length, by rooms, come of those of the two lengths ahead, so that some rule has two factors for
    # each room: what holds for as many lengths behind a rule's first ones holds for all. The shortest rule has
    # integers, far below the prime numbers. What is found but for multiples of one is never longer than it: if the
    # numbers themselves keep that, it is the shortest rule; if not, the prime number was an unlucky one.
    numbers = member_numbers(table, 4 * len(table))[1:]
    factors = []
    for exponent in PRIME_EXPONENTS:
        if not keeps_rule(numbers, factors):
            factors = rule_but_for(numbers, (1 << exponent) - 1)
    return factors


def packed(numbers, width):
    """One integer with the numbers, from 0 on, side by side, each so many bits wide."""
    whole = 0
    for number in reversed(numbers):
        whole = (whole << width) + number
    return whole


def multiplied(one, other, modulus):
    """The product of two polynomials, both the lists of their factors, but for multiples of a modulus."""
    # One product of two long integers is much faster than those of all pairs of factors.
    width = (modulus * modulus * min(len(one), len(other))).bit_length()
    whole = packed(one, width) * packed(other, width)
    mask = (1 << width) - 1
    return [((whole >> (place * width)) & mask) % modulus for place in range(len(one) + len(other) - 1)]


def far_rest(numbers, factors, place, modulus):
    """The remainder of the number at a place, from 0 on, of those that a rule tells by its first ones."""
    # The numbers are the factors of the powers in a quotient of polynomials, above / below. Above and below times
    # below with the signs of its odd powers changed leaves but even powers below: half of them tell the place.
    below = [1 % modulus] + [-factor % modulus for factor in factors]
    above = multiplied([number % modulus for number in numbers], below, modulus)[:len(factors)]
    while place > 0:
        signed = [-factor % modulus if at % 2 else factor for at, factor in enumerate(below)]
        above = multiplied(above, signed, modulus)[place % 2::2]
        below = multiplied(below, signed, modulus)[::2]
        place //= 2
    return above[0]


def masks_behind(table, masks):
    """For each room the steps, as bits, with which straight walks one step longer come there."""
    behind = [0 for _ in table]
    for steps, mask in zip(table, masks):
        for step, after in steps.items():
            # A walk that came by some other step than the opposite one goes on by this one.
            if mask & ~(1 << step_place(-step)):
                behind[after] |= 1 << step_place(step)
    return tuple(behind)


def length_marks(table):
    """The tuple (marks, begin): whether members have the lengths from 0 on; from begin on the marks go round."""
    # A bit for no step at all stands for the beginning.
    masks = (1 << (2 * MOST_LETTERS),) + (0,) * (len(table) - 1)
    met, marks = {}, []
    while masks not in met:
        met[masks] = len(marks)
        marks.append(masks[0] > 0)
        masks = masks_behind(table, masks)
    return marks, met[masks]


def lengths_told(table):
    """The tuple (early, begin, round, late) of the lengths of members."""
    marks, begin = length_marks(table)
    once = len(once_round(tuple(marks[begin:])))
    while begin > 0 and marks[begin - 1] == marks[begin - 1 + once]:
        begin -= 1
    early = [length for length in range(begin) if marks[length]]
    return early, begin, once, sorted([length % once for length in range(begin, begin + once) if marks[length]])


def has_two_sides(table):
    """Whether the rooms of a web have two sides, so that each step leads from one to the other."""
    sides = {0: 0}
    waiting = [0]
    while waiting:
        room = waiting.pop()
        for after in list(table[room].values()):
            if after not in sides:
                sides[after] = 1 - sides[room]
                waiting.append(after)
            elif sides[after] == sides[room]:
                return False
    return True


def members_of_length(web, length):
    """How many members have a length."""
    table = checked_table(web)
    check_least(length, 0)
    return member_numbers(table, length)[length]


def members_to(web, length):
    """How many members have at most this length."""
    table = checked_table(web)
    check_least(length, 0)
    return sum(member_numbers(table, length))


def rest(web, length, modulus):
    """The remainder by a modulus of the number of members that have a length."""
    table = checked_table(web)
    check_least(length, 0)
    check_least(modulus, 1)
    if length == 0:
        return 1 % modulus
    factors = shortest_rule(table)
    if not factors:
        return 0
    return far_rest(member_numbers(table, len(factors))[1:], factors, length - 1, modulus)


def rule(web):
    """The shortest list of fractions by which the number of members of a length is told by those of lengths ahead."""
    return [(factor, 1) for factor in shortest_rule(checked_table(web))]


def first_unlike_length(one, other):
    """The least length of which two webs have not as many members; None if there is none."""
    table = checked_table(one)
    other_table = checked_table(other)
    # Both numbers, and so their differences, keep a rule with two factors for each room of both webs.
    length = 2 * (len(table) + len(other_table))
    many = member_numbers(table, length)
    other_many = member_numbers(other_table, length)
    unlike = [place for place in range(length + 1) if many[place] != other_many[place]]
    return unlike[0] if unlike else None


def nth_member(web, number):
    """The n-th member; None if there are not so many."""
    table = checked_table(web)
    check_least(number, 0)
    if number > 0 and size_of_basis(web) == 0:
        return None
    return Homeward(table).nth(number)


def member_number(web, walk):
    """How many members there are ahead of a walk."""
    table = checked_table(web)
    check_walk(web[0], walk)
    return Homeward(table).ahead(straightened(walk))


def next_member(web, walk):
    """The first member behind a walk; None if there is none."""
    table = checked_table(web)
    check_walk(web[0], walk)
    if size_of_basis(web) == 0:
        return None
    steps = straightened(walk)
    homeward = Homeward(table)
    itself = 1 if end_of(table, 0, steps) == 0 else 0
    return homeward.nth(homeward.ahead(steps) + itself)


def has_length(web, length):
    """Whether some member has a length."""
    table = checked_table(web)
    check_least(length, 0)
    early, begin, once, late = lengths_told(table)
    return length in early if length < begin else length % once in late


def lengths(web):
    """The tuple (early, begin, round, late): the lengths below begin, and the remainders from begin on, of members."""
    return lengths_told(checked_table(web))


def shares(web):
    """The list of the parts of all straight walks that belong in the end, by the remainders of lengths."""
    table = checked_table(web)
    count = len(table)
    if not is_closed(web[0], table):
        return [(0, 1)]
    if web[0] == 1:
        # Along one letter there are but two walks of a length: they come home behind each round.
        return [(1, 1)] + [(0, 1)] * (count - 1)
    # Long walks come to all rooms alike, or, if the rooms have two sides, to all those of one side: to half of them.
    return [(1, count // 2), (0, 1)] if has_two_sides(table) else [(1, count)]
