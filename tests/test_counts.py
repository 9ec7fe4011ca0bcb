"""[8], [16]: numbers of members, and walkclubs/counts.py."""

import random
import unittest
from fractions import Fraction

from tests.helpers import (
    EVEN, HALF, NOTHING, WHOLE, all_straight, all_straight_to, look_at_answer, look_at_refusals, slow_key,
    slow_room, slow_steps, slow_straight, some_lists, some_straight, some_walk, some_web,
    web_of_turns,
)
from walkclubs.counts import (
    first_unlike_length, has_length, lengths, member_number, members_of_length, members_to, next_member, nth_member,
    rest, rule, shares,
)
from walkclubs.meets import meet
from walkclubs.orders import how_many, nth_walk, number_of
from walkclubs.webs import nothing, web_of, whole

TWOS = (2, ((1, 1), (0, 0)))
TWELVE = some_web(2, 12, random.Random(70))
SIXTY = some_web(4, 60, random.Random(80))
RING = web_of(2, [(1,) * 60])
RINGS = web_of(2, [(1,) * 29, (2,) * 31])
FAR = web_of(2, [(1, 1, 1, 2, 2, -1, -1, -1), (1, 1, 1, 2, 1, 1, -2, -1, -1, -1)])
LINES = [(1, ((-1,),)), (1, ((0,),)), (1, ((1,), (2,), (0,)))]
WEBS = [NOTHING, WHOLE, HALF, EVEN, TWOS, FAR, web_of(2, [(1, 2, 2, -1)]), web_of(3, [(1, 2, 3), (2, 2)]), *LINES]


def webs_to_try(seed, many=25):
    rng = random.Random(seed)
    folded = [web_of(letters, walks) for letters in (2, 3) for walks in some_lists(letters, many, seed + letters)]
    return WEBS + folded + [some_web(2, rng.randrange(1, 8), rng) for _ in range(8)]


def slow_numbers(web, length):
    """The numbers of members of all lengths to one, by the rooms and the last steps that walks have."""
    many = {(0, 0): 1}
    numbers = [1]
    for _ in range(length):
        longer = {}
        for (room, last), count in many.items():
            for step in slow_steps(web[0]):
                after = slow_room(web, room, (step,))
                if step != -last and after is not None:
                    longer[(after, step)] = longer.get((after, step), 0) + count
        many = longer
        numbers.append(sum(count for (room, _), count in many.items() if room == 0))
    return numbers


def slow_rest(web, length, modulus):
    """The remainder at a length, by squaring how many walks lead on from each room and last step to another one."""
    places = [(0, 0)] + [(room, step) for room in range(len(web[1])) for step in slow_steps(web[0])]
    matrix = [
        [int(step not in (0, -last) and slow_room(web, room, (step,)) == after) for after, step in places]
        for room, last in places
    ]
    row = [int(place == (0, 0)) for place in places]
    while length:
        if length % 2:
            row = [sum(a * b for a, b in zip(row, column)) % modulus for column in zip(*matrix)]
        columns = list(zip(*matrix))
        matrix = [[sum(a * b for a, b in zip(line, column)) % modulus for column in columns] for line in matrix]
        length //= 2
    return sum(many for many, (room, _) in zip(row, places) if room == 0) % modulus


def stepped_rest(web, length, modulus):
    """The remainder at a length from 2 on, length by length: a walk goes on in all ways but back by its last step."""
    near = [[slow_room(web, room, (step,)) for step in slow_steps(web[0])] for room in range(len(web[1]))]
    near = [[after for after in afters if after is not None] for afters in near]
    ahead = [int(room == 0) for room in range(len(near))]
    many = [sum(ahead[after] for after in afters) for afters in near]
    for turn in range(length - 1):
        longer = [
            (sum(many[after] for after in afters) - (len(afters) - (turn > 0)) * fewer) % modulus
            for afters, fewer in zip(near, ahead)
        ]
        ahead, many = many, longer
    return many[0]


def rank_of(rows):
    """The rank of a list of rows of integers."""
    rows = [[Fraction(entry) for entry in row] for row in rows]
    rank = 0
    for column in range(len(rows[0])):
        found = [row for row in rows[rank:] if row[column]]
        if found:
            rows.remove(found[0])
            rows.insert(rank, found[0])
            for at in range(rank + 1, len(rows)):
                factor = rows[at][column] / found[0][column]
                rows[at] = [a - factor * b for a, b in zip(rows[at], found[0])]
            rank += 1
    return rank


def slow_lengths(web, most=260):
    """The least begin, and for it the least round, with which the lengths of members go round as far as is looked."""
    marks = [many > 0 for many in slow_numbers(web, most)]
    for begin in range(most // 2):
        for once in range(1, most // 4):
            if marks[begin:-once] == marks[begin + once:]:
                late = [left for left in range(once) if any(marks[n] for n in range(begin, most) if n % once == left)]
                return [n for n in range(begin) if marks[n]], begin, once, late


class Examples(unittest.TestCase):
    def test_of_the_document(self):
        for length, many in enumerate([1, 2, 4, 18, 60]):
            look_at_answer(self, many, members_of_length, EVEN, length)
        for expected, function, *arguments in [
            (7, members_to, EVEN, 2), ([(3, 1), (-3, 1), (9, 1)], rule, EVEN), (4, rest, EVEN, 10 ** 30, 7),
            ((1, 1), nth_member, EVEN, 3), (5, member_number, EVEN, (2, 2)), ((-1, -1), next_member, EVEN, (1, 2)),
            ([(1, 2)], shares, EVEN), ([(1, 1), (0, 1)], shares, TWOS), ([(0, 1)], shares, HALF),
            (True, has_length, TWOS, 10 ** 30), (([], 0, 2, [0]), lengths, TWOS),
            (([], 0, 3, [0]), lengths, (1, ((1,), (2,), (0,)))),
        ]:
            look_at_answer(self, expected, function, *arguments)

    def test_by_name(self):
        look_at_answer(self, 60, members_of_length, length=4, web=EVEN)
        look_at_answer(self, 7, members_to, length=2, web=EVEN)
        look_at_answer(self, 4, rest, modulus=7, length=10 ** 30, web=EVEN)
        look_at_answer(self, [(3, 1), (-3, 1), (9, 1)], rule, web=EVEN)
        look_at_answer(self, 1, first_unlike_length, other=EVEN, one=WHOLE)
        look_at_answer(self, (1, 1), nth_member, number=3, web=EVEN)
        look_at_answer(self, 5, member_number, walk=(2, 2), web=EVEN)
        look_at_answer(self, (-1, -1), next_member, walk=(1, 2), web=EVEN)
        look_at_answer(self, False, has_length, length=10 ** 30 - 1, web=TWOS)
        look_at_answer(self, ([], 0, 2, [0]), lengths, web=TWOS)
        look_at_answer(self, [(1, 2)], shares, web=EVEN)


class Numbers(unittest.TestCase):
    def test_by_trying_all_walks(self):
        for web in webs_to_try(1, 8):
            most = 5 if web[0] < 3 else 4
            numbers = [sum(slow_room(web, 0, walk) == 0 for walk in all_straight(web[0], n)) for n in range(most)]
            for length, many in enumerate(numbers):
                look_at_answer(self, many, members_of_length, web, length)
                look_at_answer(self, sum(numbers[:length + 1]), members_to, web, length)

    def test_long_walks(self):
        for web in webs_to_try(2, 6) + [TWELVE, RING, RINGS]:
            numbers = slow_numbers(web, 102)
            for length in (0, 1, 30, 59, 60, 99, 100, 102):
                look_at_answer(self, numbers[length], members_of_length, web, length)
                look_at_answer(self, sum(numbers[:length + 1]), members_to, web, length)
        for letters in (1, 2, 3, 4):
            look_at_answer(self, how_many(letters, 100), members_of_length, whole(letters), 100)
            look_at_answer(self, 0, members_of_length, nothing(letters), 100)
            look_at_answer(self, 1, members_to, nothing(letters), 100)

    def test_rests(self):
        rng = random.Random(3)
        for web in webs_to_try(3, 6) + [TWELVE, RING]:
            numbers = slow_numbers(web, 100)
            for length in (0, 1, 2, 7, 100):
                for modulus in (1, 2, 10 ** 60, rng.randrange(1, 10 ** 60)):
                    look_at_answer(self, numbers[length] % modulus, rest, web, length, modulus)

    def test_rests_at_far_lengths(self):
        rng = random.Random(4)
        for web in [HALF, EVEN, TWOS, WHOLE, NOTHING, FAR, web_of(2, [(1, 2, 2, -1)]), *LINES]:
            for length in (10 ** 30, 10 ** 30 - 1, rng.randrange(10 ** 30)):
                for modulus in (1, 2, 6, 10 ** 60 - 1, rng.randrange(1, 10 ** 60)):
                    look_at_answer(self, slow_rest(web, length, modulus), rest, web, length, modulus)
        self.assertEqual(rest(whole(4), 10 ** 30, 10 ** 50), 8 * pow(7, 10 ** 30 - 1, 10 ** 50) % 10 ** 50)

    def test_rests_of_great_webs(self):
        for web, length in ((SIXTY, 2000), (RINGS, 5001), (TWELVE, 10000)):
            look_at_answer(self, stepped_rest(web, length, 10 ** 59 + 9), rest, web, length, 10 ** 59 + 9)

    def test_rests_at_far_lengths_keep_the_rule(self):
        factors = [factor for factor, _ in rule(TWELVE)]
        count, modulus = len(factors), 10 ** 59 + 9
        rests = [rest(TWELVE, 10 ** 30 - count + n, modulus) for n in range(count + 1)]
        told = sum(factor * rests[count - 1 - i] for i, factor in enumerate(factors))
        self.assertEqual(rests[count], told % modulus)


class Rules(unittest.TestCase):
    def look(self, web, far=40):
        answer = rule(web)
        look_at_answer(self, answer, rule, web)
        for fraction in answer:
            self.assertIsInstance(fraction, tuple)
            self.assertEqual(fraction[1], 1)
        factors = [Fraction(*fraction) for fraction in answer]
        count = len(factors)
        size = 2 * len(web[1])
        numbers = slow_numbers(web, count + 2 * size + far)
        for n in range(count + 1, len(numbers)):
            self.assertEqual(numbers[n], sum(factors[i] * numbers[n - 1 - i] for i in range(count)))
        # No shorter rule holds: so many rows of the numbers, each begun one later, are not told by one another.
        if count:
            rows = [numbers[1 + i:1 + i + count] for i in range(count)]
            self.assertEqual(rank_of(rows), count)

    def test_rules(self):
        for web in webs_to_try(5, 12):
            self.look(web)
        self.look(TWELVE)
        self.look(RING)
        self.look(web_of(3, [(1, 2, 3) * 3, (2, 2, 1, 1, 3)]))

    def test_edges(self):
        for letters in (1, 2, 4):
            look_at_answer(self, [], rule, nothing(letters))
            look_at_answer(self, [(2 * letters - 1, 1)], rule, whole(letters))
        look_at_answer(self, [(0, 1), (0, 1), (1, 1)], rule, (1, ((1,), (2,), (0,))))
        # Members of the lengths 4, 6, .. alone: the first numbers are 0, and then two at all lengths from 3 on.
        look_at_answer(self, [(1, 1), (0, 1), (0, 1)], rule, web_of(2, [(1, 2, -1)]))
        look_at_answer(self, [(0, 1)] * 59 + [(1, 1)], rule, RING)

    def test_of_sixty_rooms(self):
        factors = [factor for factor, _ in rule(SIXTY)]
        self.assertLessEqual(len(factors), 120)
        numbers = [0] + [members_of_length(SIXTY, n) for n in range(1, 150)]
        for n in range(len(factors) + 1, 150):
            self.assertEqual(numbers[n], sum(factor * numbers[n - 1 - i] for i, factor in enumerate(factors)))

    def test_first_unlike_length(self):
        webs = webs_to_try(6, 6) + [RING, TWELVE]
        numbers = [slow_numbers(web, 60) for web in webs]
        for web, one in zip(webs, numbers):
            for other_web, other in zip(webs, numbers):
                unlike = [n for n in range(61) if one[n] != other[n]]
                look_at_answer(self, unlike[0] if unlike else None, first_unlike_length, web, other_web)
        look_at_answer(self, 1, first_unlike_length, whole(1), whole(2))
        look_at_answer(self, None, first_unlike_length, nothing(1), nothing(4))
        look_at_answer(self, None, first_unlike_length, (1, ((1,), (2,), (0,))), web_of(4, [(4, 3, 2)]))
        look_at_answer(self, 60, first_unlike_length, RING, NOTHING)
        look_at_answer(self, 59, first_unlike_length, RING, web_of(1, [(1,) * 59]))
        look_at_answer(self, None, first_unlike_length, SIXTY, SIXTY)
        # Two rings far from home, that are alike for long.
        far = [web_of(2, [(1,) * 18 + (2,) * count + (-1,) * 18]) for count in (23, 24)]
        look_at_answer(self, 59, first_unlike_length, *far)


class Order(unittest.TestCase):
    def test_by_trying_all_walks(self):
        for web in webs_to_try(7, 5):
            walks = all_straight_to(web[0], 4 if web[0] == 2 else 3)
            members = [walk for walk in walks if slow_room(web, 0, walk) == 0]
            for number, walk in enumerate(members):
                look_at_answer(self, walk, nth_member, web, number)
            for walk in walks:
                ahead = [member for member in members if slow_key(member) < slow_key(walk)]
                look_at_answer(self, len(ahead), member_number, web, walk)
                behind = [member for member in members if slow_key(member) > slow_key(walk)]
                if behind:
                    look_at_answer(self, behind[0], next_member, web, walk)

    def test_walks_that_are_not_straight(self):
        rng = random.Random(8)
        for web in webs_to_try(8, 4):
            for _ in range(10):
                walk = some_walk(web[0], 7, rng)
                look_at_answer(self, member_number(web, slow_straight(walk)), member_number, web, walk)
                look_at_answer(self, next_member(web, slow_straight(walk)), next_member, web, walk)
        look_at_answer(self, 0, member_number, HALF, (1, 2, -2, -1))
        look_at_answer(self, (2,), next_member, HALF, (1, 2, -2, -1))

    def test_few_members(self):
        for letters in (1, 2, 4):
            look_at_answer(self, (), nth_member, nothing(letters), 0)
            for number in (1, 2, 10 ** 60 - 1):
                look_at_answer(self, None, nth_member, nothing(letters), number)
            for walk in ((), (1,), (1, -1), (1,) * 400):
                look_at_answer(self, None, next_member, nothing(letters), walk)
                look_at_answer(self, int(slow_straight(walk) != ()), member_number, nothing(letters), walk)

    def test_great_numbers(self):
        rng = random.Random(9)
        for web in (EVEN, HALF, FAR, TWELVE, SIXTY, whole(4), web_of(3, [(1, 2), (3, 3), (2, 3)])):
            for number in [10 ** 60 - 1, 10 ** 59] + [rng.randrange(10 ** 60) for _ in range(4)]:
                walk = nth_member(web, number)
                self.assertEqual(slow_straight(walk), walk)
                self.assertEqual(slow_room(web, 0, walk), 0)
                look_at_answer(self, number, member_number, web, walk)
                look_at_answer(self, nth_member(web, number + 1), next_member, web, walk)
                self.assertLess(slow_key(walk), slow_key(next_member(web, walk)))
        for number in (0, 7, 10 ** 60 - 1):
            look_at_answer(self, nth_walk(3, number), nth_member, whole(3), number)
            look_at_answer(self, number_of(3, nth_walk(3, number)), member_number, whole(3), nth_walk(3, number))

    def test_long_walks(self):
        rng = random.Random(10)
        look_at_answer(self, (-1,) * 360, next_member, RING, (1,) * 360)
        look_at_answer(self, (1,) * 420, next_member, RING, (-1,) * 400)
        look_at_answer(self, 12, member_number, RING, (-1,) * 360)
        look_at_answer(self, 13, member_number, RING, (1,) * 400)
        look_at_answer(self, (-1,) * 360, nth_member, RING, 12)
        for web in (EVEN, SIXTY, FAR):
            for length in (60, 400):
                walk = some_straight(web[0], length, rng)
                number = member_number(web, walk)
                member = nth_member(web, number)
                self.assertGreaterEqual(slow_key(member), slow_key(walk))
                self.assertLess(slow_key(nth_member(web, number - 1)), slow_key(walk))
                look_at_answer(self, nth_member(web, number + (member == walk)), next_member, web, walk)


class Lengths(unittest.TestCase):
    def look(self, web, most=260):
        expected = slow_lengths(web, most)
        look_at_answer(self, expected, lengths, web)
        early, begin, once, late = expected
        for length in [*range(begin + 2 * once + 2), 10 ** 30 - 1, 10 ** 30]:
            told = length in early if length < begin else length % once in late
            look_at_answer(self, told, has_length, web, length)

    def test_of_all_webs(self):
        for web in webs_to_try(11, 12) + [TWELVE]:
            self.look(web)
        self.look(RING, 300)
        # Rings with a door between them, and with many rooms on it: members of odd and of even lengths.
        for walks in ([(1, 1, 1), (2, 2, 2)], [(1,) * 4, (2,) * 6], [(1,) * 5, (2, 1, 1, -2)], [(1, 2, 2, 2, -1)],
                      [(1, 2, 2, -1), (1, 1, 1)], [(2, 2, 1, 1, -2, -2), (2, 2, 2, 2)], [(1,) * 6, (1, 1, 2, 2, 1, 1)]):
            self.look(web_of(2, walks))

    def test_edges(self):
        look_at_answer(self, ([0], 1, 1, []), lengths, NOTHING)
        look_at_answer(self, ([0], 1, 1, []), lengths, nothing(4))
        look_at_answer(self, ([], 0, 1, [0]), lengths, whole(1))
        look_at_answer(self, ([], 0, 1, [0]), lengths, whole(4))
        look_at_answer(self, ([], 0, 60, [0]), lengths, RING)
        look_at_answer(self, ([], 0, 1, [0]), lengths, web_of(2, [(1,)]))
        look_at_answer(self, ([0], 3, 1, [0]), lengths, web_of(2, [(1, 2, -1)]))
        look_at_answer(self, ([0], 3, 2, [0]), lengths, web_of(2, [(1, 2, 2, -1)]))
        # All members come home by one step, whichever it is.
        for step in slow_steps(4):
            ring = 1 if abs(step) > 1 else 2
            look_at_answer(self, ([0], 3, 1, [0]), lengths, web_of(4, [(step, ring, -step)]))
            look_at_answer(self, ([0], 3, 3, [2]), lengths, web_of(4, [(step, ring, ring, ring, -step)]))
        early, begin, once, late = lengths(RINGS)
        # Sums of 29 and 31, of which 29 * 31 - 29 - 31 is the last length that none is, and of both forward and back.
        sums = sorted({29 * a + 31 * b for a in range(40) for b in range(40)})
        self.assertEqual((begin, once, late), (29 * 31 - 29 - 31 + 1, 1, [0]))
        self.assertEqual(early, [n for n in sums if n < begin])
        for web in (NOTHING, nothing(1)):
            self.assertEqual([has_length(web, n) for n in (0, 1, 2, 100, 10 ** 30)], [True] + [False] * 4)
        self.assertEqual([has_length(RING, 10 ** 30 - n) for n in range(60)].count(True), 1)


class Shares(unittest.TestCase):
    def look(self, web, far):
        answer = shares(web)
        look_at_answer(self, answer, shares, web)
        parts = [Fraction(*fraction) for fraction in answer]
        for part, fraction in zip(parts, answer):
            self.assertEqual((part.numerator, part.denominator), fraction)
        for count in range(1, len(parts)):
            self.assertFalse(len(parts) % count == 0 and parts == parts[:count] * (len(parts) // count))
        numbers = [members_of_length(web, n) for n in (far, far + 1)] if len(parts) < 3 else []
        for n, many in zip((far, far + 1), numbers):
            near = Fraction(many, how_many(web[0], n)) - parts[n % len(parts)]
            self.assertLess(abs(near), Fraction(1, 10 ** 6), (web, n))

    def test_as_lengths_grow(self):
        for web in webs_to_try(12, 12):
            self.look(web, 400)
        self.look(SIXTY, 400)
        rng = random.Random(12)
        for letters, count in ((2, 9), (3, 4), (4, 7), (2, 12)):
            self.look(some_web(letters, count, rng), 400)

    def test_both_sides(self):
        look_at_answer(self, [(1, 1), (0, 1)], shares, TWOS)
        for count, told in ((4, (1, 2)), (6, (1, 3)), (10, (1, 5)), (12, (1, 6)), (40, (1, 20)), (60, (1, 30))):
            # All steps lead from even places to odd ones.
            turns = [[(place + far) % count for place in range(count)] for far in (1, 3)]
            web = web_of_turns(2, turns)
            look_at_answer(self, [told, (0, 1)], shares, web)
            if count < 20:
                self.look(web, 400)
        # Around a ring of odd many rooms no sides can be told.
        for count in (3, 5, 7, 9, 39):
            for steps in ((1, 1), (1, count - 1), (2, 1)):
                turns = [[(place + far) % count for place in range(count)] for far in steps]
                look_at_answer(self, [(1, count)], shares, web_of_turns(2, turns))
        look_at_answer(self, [(1, 1), (0, 1)], shares, meet(TWOS, TWOS))
        look_at_answer(self, [(1, 2), (0, 1)], shares, meet(TWOS, EVEN))
        look_at_answer(self, [(1, 3)], shares, (2, ((1, 0), (0, 2), (2, 1))))

    def test_one_letter(self):
        look_at_answer(self, [(0, 1)], shares, nothing(1))
        look_at_answer(self, [(1, 1)], shares, whole(1))
        for count in (2, 3, 12, 60):
            look_at_answer(self, [(1, 1)] + [(0, 1)] * (count - 1), shares, web_of(1, [(1,) * count]))

    def test_edges(self):
        for letters in (2, 3, 4):
            look_at_answer(self, [(0, 1)], shares, nothing(letters))
            look_at_answer(self, [(1, 1)], shares, whole(letters))
        look_at_answer(self, [(0, 1)], shares, RING)
        look_at_answer(self, [(1, 60)], shares, SIXTY)


class WrongArguments(unittest.TestCase):
    NUMBERS = [-1, -10 ** 59, True, False]

    def test_webs(self):
        for function in (rule, lengths, shares):
            look_at_refusals(self, function, ("web", "web", HALF))
        look_at_refusals(self, first_unlike_length, ("one", "web", HALF), ("other", "web", EVEN))

    def test_lengths_and_numbers(self):
        for function in (members_of_length, members_to, has_length):
            look_at_refusals(self, function, ("web", "web", HALF), ("length", self.NUMBERS, 3))
        look_at_refusals(self, nth_member, ("web", "web", NOTHING), ("number", self.NUMBERS, 3))
        look_at_refusals(
            self, rest, ("web", "web", HALF), ("length", self.NUMBERS, 3), ("modulus", [0, *self.NUMBERS], 3)
        )

    def test_walks(self):
        for function in (member_number, next_member):
            look_at_refusals(self, function, ("web", "web", HALF), ("walk", "walk", (1, 2)))


if __name__ == "__main__":
    unittest.main()
