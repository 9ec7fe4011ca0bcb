"""[36]: sums of walks, and walkclubs/sums.py."""

import itertools
import math
import random
import unittest

from tests.helpers import (
    BAD_ROWS, BAD_SUMS, EVEN, HALF, NOTHING, ODD_OBJECTS, WHOLE, all_straight_to, look_at_answer, look_at_lists,
    look_at_refusal, look_at_refusals, slow_back, slow_room, slow_steps, slow_straight, some_straight, some_walk,
    some_web, webs_with,
)
from walkclubs.bases import basis
from walkclubs.cosets import index
from walkclubs.errors import InvalidLetters, InvalidRows, InvalidSums, InvalidWalk
from walkclubs.sums import lattice, sums, sums_barred, sums_bar, sums_index, walk_with_sums, web_of_sums
from walkclubs.turned import kept_by_all, turned
from walkclubs.webs import belongs, is_web, nothing, rooms, web_of, whole

TWELVE = some_web(2, 12, random.Random(70))
SIXTY = some_web(4, 60, random.Random(80))
RING = web_of(2, [(1,) * 60])
TWOS = (2, ((1, 1), (0, 0)))
FAR = web_of(2, [(1,) * 5 + (2,) * 3, (1,) * 2 + (-2,) * 4])
MANY = web_of(3, [(1, 1, 2, 3, 3, 3), (2, 2, 2, -3, -3), (1, -2, 3, 3), (1, 1, 1, 1)])


def webs_to_try(letters, seed, many=12):
    return webs_with(letters, seed, many) + ([HALF, EVEN, TWOS, FAR, RING, TWELVE] if letters == 2 else [])


def slow_sums(letters, walk):
    """Step by step."""
    found = [0] * letters
    for step in walk:
        found[abs(step) - 1] += 1 if step > 0 else -1
    return tuple(found)


def times(factors, sums_told):
    return sum(one * other for one, other in zip(factors, sums_told))


def in_rows(rows, wanted):
    """Whether sums are in a lattice with rows that begin at later and later places: its factors come one by one."""
    wanted = list(wanted)
    for row in rows:
        place = next(place for place, number in enumerate(row) if number)
        if wanted[place] % row[place]:
            return False
        many = wanted[place] // row[place]
        wanted = [one - many * other for one, other in zip(wanted, row)]
    return not any(wanted)


def are_least(rows):
    """Whether rows have the form of least ones."""
    begun = [next((place for place, number in enumerate(row) if number), None) for row in rows]
    if None in begun or begun != sorted(set(begun)):
        return False
    for number, (row, place) in enumerate(zip(rows, begun)):
        if row[place] <= 0 or not all(0 <= other[place] < row[place] for other in rows[:number]):
            return False
    return True


def determinant(rows):
    if not rows:
        return 1
    return sum(
        (-1) ** at * number * determinant([row[:at] + row[at + 1:] for row in rows[1:]])
        for at, number in enumerate(rows[0]) if number
    )


def measure(rows, count):
    """What all determinants of so many rows, at so many places, have in common: alike for one lattice."""
    if not rows:
        return 1
    all_places = list(itertools.combinations(range(len(rows[0])), count))
    return math.gcd(*[
        determinant([tuple(row[place] for place in places) for row in chosen])
        for chosen in itertools.combinations(rows, count) for places in all_places
    ])


def is_bar(members, wanted, value):
    """Whether an object bars what is wanted from sums of which all others are made."""
    modulus, factors = value

    def is_multiple(number):
        return number == 0 if modulus == 0 else number % modulus == 0

    return all(is_multiple(times(factors, row)) for row in members) and not is_multiple(times(factors, wanted))


def wanted_sums(letters, many, rng):
    near = [tuple(rng.randrange(-3, 4) for _ in range(letters)) for _ in range(many)]
    far = [tuple(rng.choice([-20, 20, rng.randrange(-20, 21)]) for _ in range(letters)) for _ in range(many)]
    return [(0,) * letters, (20,) * letters, (-20,) * letters, *near, *far]


class Examples(unittest.TestCase):
    def test_of_the_document(self):
        for expected, function, *arguments in [
            ((0, 2), sums, 2, (1, 2, -1, 2)), ([(2, 0), (0, 1)], lattice, HALF), (2, sums_index, HALF),
            (True, sums_barred, HALF, (1, 0), (2, (1, 0))), (EVEN, web_of_sums, 2, [(2, 0), (0, 1)]),
        ]:
            look_at_answer(self, expected, function, *arguments)

    def test_by_name(self):
        look_at_answer(self, (0, 2), sums, walk=(1, 2, -1, 2), letters=2)
        look_at_answer(self, [(2, 0), (0, 1)], lattice, web=HALF)
        look_at_answer(self, 2, sums_index, web=HALF)
        look_at_answer(self, True, sums_barred, value=(2, (1, 0)), wanted=(1, 0), web=HALF)
        look_at_answer(self, EVEN, web_of_sums, rows=[(2, 0), (0, 1)], letters=2)
        walk = walk_with_sums(wanted=(2, -3), web=HALF)
        self.assertEqual((slow_sums(2, walk), belongs(HALF, walk)), ((2, -3), True))
        self.assertTrue(sums_barred(HALF, (3, 1), sums_bar(wanted=(3, 1), web=HALF)))


class Sums(unittest.TestCase):
    def test_of_walks(self):
        rng = random.Random(1)
        for letters in (1, 2, 3, 4):
            for length in (0, 1, 2, 5, 60, 400):
                walk = some_walk(letters, length, rng)
                look_at_answer(self, slow_sums(letters, walk), sums, letters, walk)
                look_at_answer(self, slow_sums(letters, walk), sums, letters, slow_straight(walk))
                look_at_answer(self, slow_sums(letters, slow_back(walk)), sums, letters, slow_back(walk))
        look_at_answer(self, (0, 0, 0, 0), sums, 4, ())
        look_at_answer(self, (0, 0, 1), sums, 3, (1, 2, -1, -2, 3))
        look_at_answer(self, (-60,), sums, 1, (-1,) * 60)
        look_at_answer(self, (0, 0), sums, 2, (1, -1))


class Lattices(unittest.TestCase):
    def test_least_rows(self):
        for letters in (1, 2, 3, 4):
            for web in webs_to_try(letters, 10 + letters):
                rows = lattice(web)
                look_at_answer(self, rows, lattice, web)
                self.assertTrue(are_least(rows), rows)
                members = [slow_sums(letters, walk) for walk in basis(web)]
                self.assertTrue(all(in_rows(rows, member) for member in members))
                # Neither more places nor a wider lattice than that of the members.
                if len(members) <= 10:
                    self.assertNotEqual(measure(members, len(rows)), 0)
                    self.assertEqual(measure(members, len(rows)), measure(rows, len(rows)))
                for row in rows:
                    walk = walk_with_sums(web, row)
                    self.assertEqual((slow_sums(letters, walk), slow_room(web, 0, walk)), (row, 0))

    def test_known_ones(self):
        look_at_answer(self, [], lattice, NOTHING)
        look_at_answer(self, [(60, 0)], lattice, RING)
        look_at_answer(self, [(1, 0), (0, 1)], lattice, WHOLE)
        look_at_answer(self, [(1, 1), (0, 2)], lattice, TWOS)
        look_at_answer(self, [(1, 11), (0, 26)], lattice, FAR)
        look_at_answer(self, [(0, 7)], lattice, web_of(2, [(-2,) * 7, (1, 2, -1, -2)]))
        look_at_answer(self, [], lattice, web_of(2, [(1, 2, -1, -2)]))
        look_at_answer(self, [(2, 3)], lattice, web_of(2, [(-1, -2, -1, -2, -2)]))
        look_at_answer(self, [(1, 0, 0, 0), (0, 1, 0, 0), (0, 0, 1, 0), (0, 0, 0, 1)], lattice, SIXTY)
        look_at_answer(self, [(0, 3, 1), (0, 0, 2)], lattice, web_of(3, [(2, 2, 2, 3), (3, 3)]))
        look_at_answer(self, [(2, 0, 1), (0, 0, 5)], lattice, web_of(3, [(1, 1, -3, -3, -3, -3), (3,) * 5]))

    def test_index(self):
        for letters in (1, 2, 3, 4):
            for web in webs_to_try(letters, 20 + letters):
                members = [slow_sums(letters, walk) for walk in basis(web)]
                if len(members) <= 10:
                    number = measure(members, letters) if len(members) >= letters else 0
                    look_at_answer(self, number or None, sums_index, web)
        for expected, web in [
            (2, HALF), (2, EVEN), (2, TWOS), (26, FAR), (None, RING), (None, NOTHING), (1, WHOLE), (1, whole(4)),
            (None, nothing(1)), (60, web_of(1, [(1,) * 60])), (None, web_of(2, [(1, 2), (1, 1, 2, 2)])),
            (None, web_of(3, [(1,), (2,)])), (1, SIXTY), (144, web_of(2, [(1,) * 12, (2,) * 12])),
        ]:
            look_at_answer(self, expected, sums_index, web)

    def test_as_of_the_club_turned(self):
        for web in (HALF, FAR, TWELVE, MANY):
            look_at_answer(self, lattice(web), lattice, turned(web, (1, 2, 1)))


class WithSums(unittest.TestCase):
    def test_walks_and_bars(self):
        rng = random.Random(2)
        for letters in (1, 2, 3, 4):
            for web in webs_to_try(letters, 30 + letters, 30):
                rows = lattice(web)
                members = [slow_sums(letters, walk) for walk in basis(web)]
                for wanted in wanted_sums(letters, 6, rng):
                    self.look(web, wanted, in_rows(rows, wanted), members)

    def look(self, web, wanted, has_some, members):
        walk, bar = walk_with_sums(web, wanted), sums_bar(web, wanted)
        look_at_answer(self, bar, sums_bar, web, wanted)
        if not has_some:
            self.assertIsNone(walk)
            self.assertEqual((type(bar), len(bar), type(bar[1]), len(bar[1])), (tuple, 2, tuple, web[0]))
            self.assertTrue(all(type(number) is int for number in (bar[0], *bar[1])) and bar[0] >= 0)
            self.assertTrue(is_bar(members, wanted, bar), (web, wanted, bar))
            look_at_answer(self, True, sums_barred, web, wanted, bar)
        else:
            self.assertIsNone(bar)
            self.assertEqual(slow_sums(web[0], walk), wanted)
            self.assertEqual(slow_straight(walk), walk)
            self.assertEqual(slow_room(web, 0, walk), 0)
            self.assertLess(len(walk), 30000)
            for modulus in range(4):
                for factors in ((1,) * web[0], (0,) * web[0], (1, -1, 2, 3)[:web[0]]):
                    look_at_answer(self, False, sums_barred, web, wanted, (modulus, factors))

    def test_walks_of_many_rooms_are_not_endless(self):
        # Without what brings times nearer to 0 these walks would have thousands of millions of steps.
        first = [(1,) * 11 + (3,) * 7, (2,) * 13 + (-1,) * 4, (3,) * 17 + (2,) * 3, (-1,) * 5 + (2,) * 9 + (3,) * 2]
        rng = random.Random(3)
        for _ in range(30):
            walks = [tuple(step * rng.choice([-1, 1]) for step in walk) for walk in first]
            web = web_of(3, [slow_straight(walk) for walk in walks])
            for wanted in wanted_sums(3, 2, rng):
                walk = walk_with_sums(web, wanted)
                if walk is None:
                    self.assertTrue(sums_barred(web, wanted, sums_bar(web, wanted)))
                else:
                    self.assertEqual((sums(3, walk), belongs(web, walk)), (wanted, True))
                    self.assertLess(len(walk), 100000)

    def test_edges(self):
        for letters in (1, 2, 3, 4):
            none = (0,) * letters
            look_at_answer(self, (), walk_with_sums, nothing(letters), none)
            look_at_answer(self, None, sums_bar, nothing(letters), none)
            look_at_answer(self, None, sums_bar, whole(letters), (20,) * letters)
            for place in range(letters):
                wanted = tuple(20 if at == place else 0 for at in range(letters))
                look_at_answer(self, None, walk_with_sums, nothing(letters), wanted)
                look_at_answer(self, (place + 1,) * 20, walk_with_sums, whole(letters), wanted)
                self.assertEqual(sums_bar(nothing(letters), wanted)[0], 0)
        look_at_answer(self, None, walk_with_sums, RING, (20, 0))
        self.assertTrue(is_bar([(60, 0)], (20, 0), sums_bar(RING, (20, 0))))
        self.assertTrue(is_bar([(60, 0)], (0, 1), sums_bar(RING, (0, 1))))
        look_at_answer(self, (), walk_with_sums, web_of(2, [(1, 2, -1, -2)]), (0, 0))
        look_at_answer(self, None, walk_with_sums, web_of(2, [(1, 2, -1, -2)]), (1, 0))
        for web in (SIXTY, TWELVE, MANY, web_of(2, [(1,) * 12, (2,) * 12])):
            members = [slow_sums(web[0], walk) for walk in basis(web)]
            for wanted in wanted_sums(web[0], 5, random.Random(4)):
                self.look(web, wanted, in_rows(lattice(web), wanted), members)


class Barred(unittest.TestCase):
    def test_of_tuples(self):
        rng = random.Random(5)
        for letters in (1, 2, 3):
            for web in webs_to_try(letters, 40 + letters, 6):
                members = [slow_sums(letters, walk) for walk in basis(web)]
                for wanted in wanted_sums(letters, 2, rng):
                    for modulus in (0, 1, 2, 3, 4, 5, 60):
                        factors = tuple(rng.randrange(-3, 4) for _ in range(letters))
                        value = (modulus, factors)
                        look_at_answer(self, is_bar(members, wanted, value), sums_barred, web, wanted, value)

    def test_of_any_object(self):
        for bad in ODD_OBJECTS:
            look_at_answer(self, False, sums_barred, HALF, (1, 0), bad)
            look_at_answer(self, False, sums_barred, HALF, (1, 0), (2, bad))
            look_at_answer(self, False, sums_barred, NOTHING, (1, 1), (0, bad))
            if type(bad) is not int:
                look_at_answer(self, False, sums_barred, NOTHING, (1, 1), (bad, (1, 0)))
        for bad in (
            [2, (1, 0)], (2, [1, 0]), (2, (1,)), (2, (1, 0, 0)), (2, (1, 0), 0), (2,), (), None, (True, (1, 0)),
            (2, (True, 0)), (2, (1, False)), (-2, (1, 0)), ("2", (1, 0)), (2, (1, None)), (2, "10"), {2: (1, 0)},
            (None, (1, 0)), (2, ((1,), 0)), ((2, (1, 0)),), (2, {1: 0}),
        ):
            look_at_answer(self, False, sums_barred, HALF, (1, 0), bad)
        for good in ((2, (1, 0)), (2, (-1, 0)), (2, (3, 2)), (2, (1, 2)), (4, (2, 0)), (2, (10 ** 60 + 1, 0))):
            look_at_answer(self, True, sums_barred, HALF, (1, 0), good)
        for other in ((2, (1, 1)), (2, (0, 0)), (2, (2, 0)), (1, (1, 0)), (0, (1, 0)), (3, (1, 0)), (4, (1, 0))):
            look_at_answer(self, False, sums_barred, HALF, (1, 0), other)
        look_at_answer(self, True, sums_barred, NOTHING, (0, 1), (0, (0, 1)))
        look_at_answer(self, True, sums_barred, NOTHING, (0, 1), (7, (0, 1)))
        look_at_answer(self, False, sums_barred, NOTHING, (0, 7), (7, (0, 1)))
        look_at_answer(self, False, sums_barred, NOTHING, (0, 0), (0, (0, 1)))
        look_at_answer(self, False, sums_barred, NOTHING, (0, 1), (-1, (0, 1)))
        look_at_answer(self, False, sums_barred, NOTHING, (0, 1), (-7, (0, 1)))
        look_at_answer(self, False, sums_barred, HALF, (2, 1), (2, (1, 0)))


class WebsOfSums(unittest.TestCase):
    def test_by_trying_all_walks(self):
        rng = random.Random(6)
        tried = 0
        for letters, most in ((1, 8), (2, 5), (3, 4), (4, 3)):
            walks = all_straight_to(letters, most)
            for _ in range(40):
                rows = [tuple(rng.randrange(-4, 5) for _ in range(letters)) for _ in range(rng.randrange(9))]
                members = [row for row in rows if any(row)]
                many = measure(members, letters) if len(members) >= letters else 0
                if not 1 <= many <= 60:
                    look_at_refusal(self, InvalidRows, rows, web_of_sums, [letters, rows])
                    continue
                tried += 1
                web = web_of_sums(letters, rows)
                look_at_answer(self, web, web_of_sums, letters, rows)
                self.assertTrue(is_web(web))
                self.assertEqual((rooms(web), index(web), sums_index(web)), (many, many, many))
                self.assertTrue(kept_by_all(web))
                least = lattice(web)
                self.assertTrue(all(in_rows(least, row) for row in rows))
                for walk in walks[::1 + len(walks) // 200]:
                    self.assertEqual(slow_room(web, 0, walk) == 0, in_rows(least, slow_sums(letters, walk)))
                look_at_answer(self, web, web_of_sums, letters, least)
                look_at_answer(self, web, web_of_sums, letters, [*rows[::-1], *least, *rows][:8 + len(least)])
        self.assertGreater(tried, 60)

    def test_edges(self):
        for letters in (1, 2, 3, 4):
            ones = [tuple(int(at == place) for at in range(letters)) for place in range(letters)]
            look_at_answer(self, whole(letters), web_of_sums, letters, ones)
            for many in (1, 2, 59, 60):
                rows = [tuple(many * number for number in ones[0]), *ones[1:]]
                web = web_of_sums(letters, rows)
                self.assertEqual((rooms(web), sums_index(web), lattice(web)), (many, many, rows))
            for many in (61, 62, 10 ** 60):
                rows = [tuple(many * number for number in ones[0]), *ones[1:]]
                look_at_refusal(self, InvalidRows, rows, web_of_sums, [letters, rows])
            for rows in ([], [(0,) * letters], [(0,) * letters] * 8, [ones[0]] * 8 if letters > 1 else []):
                look_at_refusal(self, InvalidRows, rows, web_of_sums, [letters, rows], ["letters", "rows"])
        look_at_answer(self, web_of(1, [(1,) * 60]), web_of_sums, 1, [(60,)])
        look_at_answer(self, web_of(1, [(1,)]), web_of_sums, 1, [(6,), (10,), (15,)])
        look_at_answer(self, web_of(1, [(1, 1)]), web_of_sums, 1, [(-10 ** 59,), (10 ** 40 - 2,)])
        look_at_answer(self, TWOS, web_of_sums, 2, [(1, 1), (1, -1)])
        look_at_answer(self, TWOS, web_of_sums, 2, [(-1, -1), (0, 2), (0, 0), (4, -4)])
        self.assertEqual(rooms(web_of_sums(2, [(5, 2), (-5, 10)])), 60)
        self.assertEqual(rooms(web_of_sums(4, [(2, 1, 0, 0), (0, 3, 1, 0), (0, 0, 2, 1), (0, 0, 0, 5)])), 60)
        look_at_refusal(self, InvalidRows, [(8, 0), (0, 8)], web_of_sums, [2, [(8, 0), (0, 8)]])

    def test_of_the_lattice_of_a_club(self):
        # The club of the sums of a club has all of its walks.
        for letters in (1, 2, 3, 4):
            for web in webs_to_try(letters, 50 + letters):
                many = sums_index(web)
                if many is not None and many <= 60:
                    wider = web_of_sums(letters, lattice(web))
                    self.assertTrue(all(belongs(wider, walk) for walk in basis(web)))
                    look_at_answer(self, lattice(web), lattice, wider)


class WrongArguments(unittest.TestCase):
    def test_walks_and_webs(self):
        look_at_refusals(self, sums, ("letters", "letters", 2), ("walk", "walk", (1,)))
        look_at_refusal(self, InvalidWalk, (2,), sums, [1, (2,)])
        for function in (lattice, sums_index):
            look_at_refusals(self, function, ("web", "web", HALF))

    def test_sums(self):
        for function in (walk_with_sums, sums_bar):
            look_at_refusals(self, function, ("web", "web", HALF), ("wanted", "sums", (1, 0)))
            look_at_refusal(self, InvalidSums, (0, 0), function, [whole(1), (0, 0)])
            look_at_refusal(self, InvalidSums, (), function, [whole(4), ()])
        look_at_refusals(
            self, sums_barred, ("web", "web", HALF), ("wanted", "sums", (1, 0)), ("value", [], (2, (1, 0))),
        )
        for bad in BAD_SUMS:
            look_at_refusal(self, InvalidSums, bad, sums_barred, [EVEN, bad, [bad]])

    def test_rows(self):
        look_at_refusals(self, web_of_sums, ("letters", "letters", 2), ("rows", "rows", [(2, 0), (0, 1)]))
        for rows in BAD_ROWS:
            look_at_refusal(self, InvalidLetters, 5, web_of_sums, [5, rows])
        look_at_refusal(self, InvalidRows, [(1, 0), (0, 1)], web_of_sums, [3, [(1, 0), (0, 1)]])
        row = [1, 0]
        look_at_refusal(self, InvalidRows, [row, row, ([row], row)], web_of_sums, [2, [row, row, ([row], row)]])


if __name__ == "__main__":
    unittest.main()
