"""[30]: short writings, and walkclubs/shorts.py."""

import random
import unittest

from tests.helpers import (
    BAD_SHORTS, BAD_WALKS, EVEN, HALF, NOTHING, ODD_OBJECTS, WHOLE, great_short, look_at_answer, look_at_lists,
    look_at_refusal, look_at_refusals, slow_back, slow_room, slow_straight, some_lists, some_straight, some_walk,
    some_web,
)
from walkclubs.errors import InvalidNumber, InvalidShort
from walkclubs.shorts import (
    first_unlike, is_short, same_walk, short_belongs, short_cut, short_length, short_room, short_steps, short_straight,
)
from walkclubs.webs import nothing, web_of, whole

FAR = (((1,), 10 ** 30), ((2,), 1))
TWELVE = some_web(2, 12, random.Random(70))
SIXTY = some_web(4, 60, random.Random(80))
RING = web_of(2, [(1,) * 60])


def laid_out(short):
    """All steps as they stand."""
    return tuple(step for walk, times in short for step in (walk * times if times > 0 else slow_back(walk) * -times))


def plain(short):
    """The straight walk of a short writing with few times, step by step."""
    kept = []
    for step in laid_out(short):
        if kept and kept[-1] == -step:
            kept.pop()
        else:
            kept.append(step)
    return tuple(kept)


def turned_short(short):
    return tuple((walk, -times) for walk, times in reversed(short))


def some_short(letters, rng, most=12):
    """Walks that are often done by others, turned back, begun at another step: so that much falls away."""
    base = [some_walk(letters, rng.randrange(1, 5), rng) for _ in range(2)]
    parts = []
    for _ in range(rng.randrange(9)):
        walk = rng.choice(base)
        kind = rng.randrange(5)
        if kind == 0:
            walk = some_walk(letters, rng.randrange(7), rng)
        elif kind == 1:
            walk = walk[1:] + walk[:1]
        elif kind == 2:
            walk = walk * rng.randrange(1, 3)
        elif kind == 3:
            lead = some_walk(letters, rng.randrange(3), rng)
            walk = lead + walk + slow_back(lead)
        parts.append((walk, rng.choice([-1, 1]) * rng.randrange(1, most)))
    return tuple(parts)


class Examples(unittest.TestCase):
    def test_of_the_document(self):
        for expected, function, *arguments in [
            (10 ** 30 + 1, short_length, 2, FAR), (True, short_belongs, HALF, FAR),
            (1, short_room, HALF, 0, (((1,), 10 ** 30 - 1),)), (None, short_room, HALF, 0, (((1,), 1), ((2,), 1))),
            (True, same_walk, 2, (((1, 2), 5), ((1, 2), -5)), ()), (7, first_unlike, 2, FAR, (((1,), 7),)),
            ((2, -1), short_steps, 2, (((1, 2, -1), 10 ** 20),), 10 ** 20, 2),
        ]:
            look_at_answer(self, expected, function, *arguments)

    def test_by_name(self):
        look_at_answer(self, True, is_short, value=FAR, letters=2)
        look_at_answer(self, 10 ** 30 + 1, short_length, short=FAR, letters=2)
        look_at_answer(self, (1, 2), short_steps, count=2, place=10 ** 30 - 1, short=FAR, letters=2)
        look_at_answer(self, True, same_walk, other=(((1, 1), 3),), one=(((1,), 6),), letters=2)
        look_at_answer(self, 6, first_unlike, other=(((1, 1), 3),), one=(((1,), 7),), letters=2)
        look_at_answer(self, 1, short_room, short=(((1,), 10 ** 30 - 1),), room=0, web=HALF)
        look_at_answer(self, True, short_belongs, short=FAR, web=HALF)
        self.assertEqual(plain(short_straight(short=(((1, 2, -1), 2),), letters=2)), (1, 2, 2, -1))
        self.assertEqual(plain(short_cut(end=3, begin=1, short=(((1, 2, -1), 2),), letters=2)), (2, 2))


class IsShort(unittest.TestCase):
    def test_of_any_object(self):
        for bad in BAD_SHORTS:
            look_at_answer(self, False, is_short, 2, bad)
        for good in [
            (), FAR, (((1,), 1),), (((), 1),), (((1, -1), -1),), (((1,), -10 ** 30), ((), 10 ** 30)),
            (((2, 2), 7),) * 60, (((1, 2) * 500, 10 ** 30),),
        ]:
            look_at_answer(self, True, is_short, 2, good)
        look_at_answer(self, False, is_short, 2, (((2, 2), 7),) * 61)
        for letters in (1, 2, 3, 4):
            look_at_answer(self, letters >= 3, is_short, letters, (((1,), 1), ((1, -3), 1)))
            look_at_answer(self, letters == 4, is_short, letters, (((4,), 1),))
            look_at_answer(self, False, is_short, letters, (((5,), 1),))
            for value in ODD_OBJECTS:
                look_at_answer(self, value == () and value is not None, is_short, letters, value)
        for walk in BAD_WALKS:
            look_at_answer(self, False, is_short, 2, (((1,), 1), (walk, 2)))


class ByGoingThem(unittest.TestCase):
    """Short writings of so few times that their steps can be gone one by one."""

    def each(self, seed, many=400):
        rng = random.Random(seed)
        for _ in range(many):
            letters = rng.choice([1, 2, 2, 2, 3, 4])
            yield letters, some_short(letters, rng), rng

    def test_lengths_and_straight_writings(self):
        for letters, short, _ in self.each(1):
            steps = plain(short)
            look_at_answer(self, len(steps), short_length, letters, short)
            answer = short_straight(letters, short)
            self.assertTrue(is_short(letters, answer))
            self.assertEqual(laid_out(answer), steps, short)
            look_at_lists(self, answer, [short])
            self.assertEqual(short_straight(letters, short), answer)

    def test_steps(self):
        for letters, short, rng in self.each(2):
            steps = plain(short)
            for _ in range(3 if steps else 0):
                place = rng.randrange(len(steps))
                count = rng.randrange(1, min(60, len(steps) - place) + 1)
                look_at_answer(self, steps[place:place + count], short_steps, letters, short, place, count)

    def test_cuts(self):
        for letters, short, rng in self.each(3):
            steps = plain(short)
            begin = rng.randrange(len(steps) + 1)
            for first, last in [(begin, rng.randrange(begin, len(steps) + 1)), (begin, begin), (0, begin),
                                (begin, len(steps)), (0, len(steps))]:
                answer = short_cut(letters, short, first, last)
                self.assertTrue(is_short(letters, answer))
                self.assertEqual(plain(answer), steps[first:last], (short, first, last))

    def test_alike_and_unlike(self):
        for letters, short, rng in self.each(4, 250):
            others = [some_short(letters, rng), short, short[:-1], (*short, ((1,), 1)), short_straight(letters, short)]
            for other in others:
                one, two = plain(short), plain(other)
                look_at_answer(self, one == two, same_walk, letters, short, other)
                alike = [place for place in range(min(len(one), len(two)) + 1) if one[:place] == two[:place]]
                look_at_answer(self, None if one == two else alike[-1], first_unlike, letters, short, other)

    def test_rooms(self):
        for letters, short, rng in self.each(5, 150):
            for walks in some_lists(letters, 4, rng.randrange(1000)):
                web = web_of(letters, walks)
                room = rng.randrange(len(web[1]))
                expected = slow_room(web, room, plain(short)) if short else room
                look_at_answer(self, expected, short_room, web, room, short)
                look_at_answer(self, slow_room(web, 0, plain(short)) == 0, short_belongs, web, short)
            web = some_web(letters, rng.randrange(1, 7) if letters > 1 else 1, rng)
            look_at_answer(self, slow_room(web, 0, plain(short)), short_room, web, 0, short)


class Far(unittest.TestCase):
    """Walks of more steps than can be gone, of which another way tells what they are."""

    def test_powers(self):
        far = 10 ** 30
        for walk in [(1,), (1, 2), (1, 2, -1), (1, -2, 1, 1, 2, -1), (1, 1, -1), (2, -2, 1, -1), ()]:
            steps = slow_straight(walk)
            lead = next(n for n in range(len(steps) + 1) if n * 2 >= len(steps) or steps[n] != -steps[-1 - n])
            core = len(steps) - 2 * lead
            for times in (1, 2, far - 1, far, -1, -far):
                look_at_answer(self, 2 * lead + core * abs(times) if steps else 0, short_length, 2, ((walk, times),))
        for times in (far, -far):
            look_at_answer(self, 0, short_length, 2, (((1, 2, -1), times), ((1, 2, -1), -times)))

    def test_all_falls_away(self):
        rng = random.Random(6)
        for letters in (1, 2, 3, 4):
            for _ in range(6):
                short = great_short(letters, rng, 4)
                look_at_answer(self, 0, short_length, letters, short + turned_short(short))
                look_at_answer(self, True, same_walk, letters, short + turned_short(short), ())
                look_at_answer(self, None, first_unlike, letters, short, short)
                self.assertEqual(short_straight(letters, short + turned_short(short)), ())
                look_at_answer(self, True, short_belongs, nothing(letters), short + turned_short(short))

    def test_neighbours_begun_at_another_step(self):
        far = 10 ** 30
        # (1, 2) done often and (2, 1) turned back: all but the first and the last steps fall away.
        short = (((1, 2), far), ((1,), 1), ((2, 1), -far))
        look_at_answer(self, 1, short_length, 2, short)
        self.assertEqual(laid_out(short_straight(2, short)), (1,))
        short = (((1, 2), far), ((-2, -1), far - 3))
        look_at_answer(self, 6, short_length, 2, short)
        look_at_answer(self, (1, 2) * 3, short_steps, 2, short, 0, 6)
        # Powers of one letter whose walks have unlike many steps, and what is left of each time.
        short = (((1,) * 7, far), ((-1,) * 5, far), ((1,) * 3, -far // 2), ((2,), 1))
        look_at_answer(self, far // 2 + 1, short_length, 2, short)
        short = (((1, 2) * 3, far), ((2,), -1), ((-1, -2) * 2, far), ((1,), -1), ((-2, -1) * 5, far // 10))
        look_at_answer(self, far - 2, short_length, 2, short)
        self.assertEqual(len(plain(tuple((walk, times // 10 ** 28 or times) for walk, times in short))), 98)
        look_at_answer(self, True, same_walk, 2, short, (((1, 2), far // 2 - 1),))
        # Powers of one walk: (1, 2) twice and four times.
        short = (((1, 2, 1, 2), far // 2), ((1, 2), -far + 1))
        look_at_answer(self, 2, short_length, 2, short)
        look_at_answer(self, (1, 2), short_steps, 2, short, 0, 2)
        look_at_answer(self, True, same_walk, 2, (((1, 2, 1, 2), far // 2),), (((1, 2), far),))
        look_at_answer(self, True, same_walk, 2, (((1,), 1), ((2, 1), far - 1), ((2,), 1)), (((1, 2), far),))
        look_at_answer(self, 2 * far, first_unlike, 2, (((1, 2), far),), (((1, 2), far), ((1, 2), 1)))

    def test_w1(self):
        # Walks that are alike for nearly as many steps as both have together, but not for good.
        for one, other in [((1, 2, 1), (1, 2)), ((1, 2, 1, 1, 2), (1, 2, 1)), ((1,) * 7 + (2,), (1,) * 6 + (2,)),
                           ((1, 1, 2), (1, 1, 2, 1, 1))]:
            alike = next(n for n in range(99) if (one * 99)[n] != (other * 99)[n])
            self.assertLess(alike, len(one) + len(other))
            for times in (10 ** 30, 10 ** 29, 50):
                shorts = ((one, times),), ((other, times),)
                look_at_answer(self, alike, first_unlike, 2, *shorts)
                length = (len(one) + len(other)) * times - 2 * alike
                look_at_answer(self, length, short_length, 2, ((one, -times), (other, times)))
                answer = short_straight(2, ((one, -times), (other, times)))
                look_at_answer(self, length, short_length, 2, answer)

    def test_falls_away_through_many_parts(self):
        far = 10 ** 30
        short = (((1,), far), ((2,), far), ((1, 2), far), ((1, 2), -far), ((2,), -far), ((1,), -far), ((2,), 3))
        look_at_answer(self, (2, 2, 2), short_steps, 2, short, 0, 3)
        look_at_answer(self, 3, short_length, 2, short)
        short = (((1,), far), ((2,), far), ((2,), -far + 1), ((2,), -1), ((1,), -far + 2), ((1,), -5))
        look_at_answer(self, (-1,) * 3, short_steps, 2, short, 0, 3)
        short = tuple(((1,), far) for _ in range(30)) + tuple(((1,), -far) for _ in range(29))
        look_at_answer(self, far, short_length, 1, short)

    def test_the_same_by_smaller_times(self):
        # What stands around powers that are done often enough does not depend on how often.
        rng = random.Random(7)
        for letters in (2, 3):
            for _ in range(40):
                walks = [some_walk(letters, rng.randrange(1, 7), rng) for _ in range(4)]
                signs = [rng.choice([-1, 1]) for _ in walks]
                few = tuple((walk, sign * 40) for walk, sign in zip(walks, signs))
                many = tuple((walk, sign * (10 ** 30 - 10 ** 9)) for walk, sign in zip(walks, signs))
                steps, length = plain(few), short_length(letters, many)
                more = plain(tuple((walk, sign * 41) for walk, sign in zip(walks, signs)))
                self.assertEqual(length, len(steps) + (10 ** 30 - 10 ** 9 - 40) * (len(more) - len(steps)))
                count = min(30, len(steps))
                if count:
                    self.assertEqual(short_steps(letters, many, 0, count), steps[:count])
                    self.assertEqual(short_steps(letters, many, length - count, count), steps[-count:])

    def test_what_is_told_is_straight(self):
        rng = random.Random(8)
        for letters in (1, 2, 3, 4):
            for _ in range(8):
                short = great_short(letters, rng)
                answer = short_straight(letters, short)
                self.assertTrue(is_short(letters, answer))
                self.assertLessEqual(len(answer), 60)
                self.look_straight(answer)
                length = short_length(letters, short)
                self.assertEqual(sum(len(walk) * abs(times) for walk, times in answer), length)
                look_at_answer(self, None, first_unlike, letters, short, answer)
                look_at_answer(self, True, same_walk, letters, answer, short)
                look_at_answer(self, length, short_length, letters, answer)
                begin = rng.randrange(length + 1)
                middle, end = sorted([rng.randrange(begin, length + 1), rng.randrange(begin, length + 1)])
                parts = [short_cut(letters, short, *at) for at in ((0, begin), (begin, middle), (middle, length))]
                self.assertEqual([short_length(letters, part) for part in parts],
                                 [begin, middle - begin, length - middle])
                self.assertLessEqual(sum(len(part) for part in parts), 60)
                look_at_answer(self, True, same_walk, letters, sum(parts, ()), short)
                cut = short_cut(letters, short, middle, end)
                self.assertEqual(short_length(letters, cut), end - middle)
                if end - middle > 60:
                    look_at_answer(self, short_steps(letters, short, middle, 60), short_steps, letters, cut, 0, 60)

    def look_straight(self, short):
        """Written out, each part up to its second round, no step stands beside its opposite one."""
        shown = [walk if times > 0 else slow_back(walk) for walk, times in short]
        for walk, (_, times) in zip(shown, short):
            steps = walk * min(2, abs(times))
            self.assertEqual(slow_straight(steps), steps)
        shown = [walk for walk in shown if walk]
        for walk, behind in zip(shown, shown[1:]):
            self.assertNotEqual(walk[-1], -behind[0])

    def test_told_ones_are_passed_back(self):
        rng = random.Random(9)
        for _ in range(4):
            short = great_short(3, rng)
            answer = short_straight(3, short)
            twice = (answer + turned_short(answer) + answer)[:60]
            self.assertLessEqual(len(answer) * 3, 60)
            look_at_answer(self, short_length(3, short), short_length, 3, twice)
            look_at_answer(self, None, first_unlike, 3, twice, short)
            web = some_web(3, 12, rng)
            for room in range(12):
                look_at_answer(self, short_room(web, room, short), short_room, web, room, answer)


class Rooms(unittest.TestCase):
    def test_around_a_ring(self):
        for times in (1, 59, 60, 61, 10 ** 30, -1, -10 ** 30):
            for walk in ((1,), (-1,), (1, 1), (1,) * 7):
                room = slow_room(RING, 0, (1,) * (len(walk) * walk[0] * times % 60))
                look_at_answer(self, room, short_room, RING, 0, ((walk, times),))
                look_at_answer(self, room == 0, short_belongs, RING, ((walk, times),))
        look_at_answer(self, None, short_room, RING, 5, (((1,), 10 ** 30), ((2,), 1)))
        look_at_answer(self, 5, short_room, RING, 5, ())
        look_at_answer(self, 5, short_room, RING, 5, (((2,), 10 ** 30), ((2,), -10 ** 30)))
        look_at_answer(self, 5, short_room, RING, 5, (((2, 1, -2, 2, -1, -2), 10 ** 30), ((), 5)))
        look_at_answer(self, None, short_room, RING, 5, (((2, 1, -2), 10 ** 30),))

    def test_out_of_a_row(self):
        row = web_of(2, [(1,) * 30 + (2,) + (-1,) * 30])
        rooms = [slow_room(row, 0, (1,) * n) for n in range(31)]
        for times in range(31):
            short = (((1,), times),) if times else (((1,), 1), ((1,), -1))
            look_at_answer(self, rooms[times], short_room, row, 0, short)
        for times in (31, 60, 61, 10 ** 30, -1, -10 ** 30):
            look_at_answer(self, None, short_room, row, 0, (((1,), times),))
        look_at_answer(self, rooms[30], short_room, row, rooms[30], (((2,), 10 ** 30),))
        look_at_answer(self, rooms[7], short_room, row, 0, (((1,), 30), ((2,), -10 ** 30), ((1,), -23)))
        look_at_answer(self, True, short_belongs, row, (((1,), 30), ((2,), -10 ** 30), ((1,), -30)))
        look_at_answer(self, False, short_belongs, row, (((1,), 29), ((2,), -10 ** 30), ((1,), -29)))

    def test_by_remainders(self):
        # 27720 times keep all rooms, if there are at most 12 of them.
        rng = random.Random(10)
        for web in (EVEN, WHOLE, TWELVE, SIXTY):
            for _ in range(5):
                walks = [some_walk(web[0], rng.randrange(1, 9), rng) for _ in range(4)]
                small = tuple((walk, rng.choice([-3, -1, 2, 5])) for walk in walks)
                if len(web[1]) <= 12:
                    great = tuple((walk, times + 27720 * rng.randrange(10 ** 24)) for walk, times in small)
                    for room in range(len(web[1])):
                        expected = slow_room(web, room, plain(small))
                        look_at_answer(self, expected, short_room, web, room, great)
                else:
                    room = rng.randrange(60)
                    for walk, times in great_short(web[0], rng, 3, 9):
                        rooms = [room]
                        while len(rooms) == 1 or rooms[-1] != room:
                            rooms.append(slow_room(web, rooms[-1], walk))
                        expected = rooms[times % (len(rooms) - 1)]
                        look_at_answer(self, expected, short_room, web, room, ((walk, times),))

    def test_of_nothing(self):
        for letters in (1, 4):
            look_at_answer(self, 0, short_room, nothing(letters), 0, ())
            look_at_answer(self, True, short_belongs, nothing(letters), (((1, -1), 10 ** 30), ((), -1)))
            look_at_answer(self, False, short_belongs, nothing(letters), (((1,), 10 ** 30),))
            look_at_answer(self, True, short_belongs, whole(letters), (((1,), 10 ** 30),))
        look_at_answer(self, False, short_belongs, NOTHING, FAR)


class Places(unittest.TestCase):
    def test_edges(self):
        length = 10 ** 30 + 1
        look_at_answer(self, (1,), short_steps, 2, FAR, 0, 1)
        look_at_answer(self, (1,) * 60, short_steps, 2, FAR, 0, 60)
        look_at_answer(self, (2,), short_steps, 2, FAR, length - 1, 1)
        look_at_answer(self, (1,) * 59 + (2,), short_steps, 2, FAR, length - 60, 60)
        for place in (-1, length, length + 1, 10 ** 59, -10 ** 30, True, False):
            look_at_refusal(self, InvalidNumber, place, short_steps, [2, FAR, place, 0])
        for count in (0, 61, -1, 10 ** 30, True, False):
            names = ["letters", "short", "place", "count"]
            look_at_refusal(self, InvalidNumber, count, short_steps, [2, FAR, 0, count], names)
        for count in (2, 60):
            look_at_refusal(self, InvalidNumber, count, short_steps, [2, FAR, length - 1, count])
            look_at_refusal(self, InvalidNumber, count, short_steps, [2, FAR, length - count + 1, count])
        for short in ((), (((1, -1), 5),), (((1,), 10 ** 30), ((1,), -10 ** 30))):
            for place in (0, 1, -1):
                look_at_refusal(self, InvalidNumber, place, short_steps, [2, short, place, 1])

    def test_cut_edges(self):
        length = 10 ** 30 + 1
        for short in ((), (((), 5),), (((1, 2, -2, -1), 10 ** 30),)):
            self.assertEqual(plain(short_cut(2, short, 0, 0)), ())
            look_at_refusal(self, InvalidNumber, 1, short_cut, [2, short, 1, 1])
            look_at_refusal(self, InvalidNumber, 1, short_cut, [2, short, 0, 1])
        for begin, end in ((0, 0), (0, length), (length, length), (7, length), (0, 10 ** 30), (10 ** 30, length)):
            cut = short_cut(2, FAR, begin, end)
            self.assertTrue(is_short(2, cut))
            look_at_answer(self, end - begin, short_length, 2, cut)
            told = (((1,), 10 ** 30 - begin),) if begin < 10 ** 30 else ()
            told += (((2,), 1),) if begin < length else ()
            look_at_answer(self, end == length, same_walk, 2, cut, told) if end > begin else None
        for begin in (-1, length + 1, 10 ** 59, True, False):
            look_at_refusal(self, InvalidNumber, begin, short_cut, [2, FAR, begin, -1])
        for begin, end in ((0, -1), (0, length + 1), (5, 4), (length, length - 1), (length, length + 1), (0, True)):
            names = ["letters", "short", "begin", "end"]
            look_at_refusal(self, InvalidNumber, end, short_cut, [2, FAR, begin, end], names)


class WrongArguments(unittest.TestCase):
    def test_short_writings(self):
        for function in (short_length, short_straight):
            look_at_refusals(self, function, ("letters", "letters", 2), ("short", "short", FAR))
        for function in (same_walk, first_unlike):
            look_at_refusals(self, function, ("letters", "letters", 2), ("one", "short", FAR), ("other", "short", ()))
        numbers = [-1, 10 ** 59, True, False]
        look_at_refusals(
            self, short_steps, ("letters", "letters", 2), ("short", "short", FAR), ("place", numbers, 5),
            ("count", [0, 61, -10 ** 59, True], 5),
        )
        look_at_refusals(
            self, short_cut, ("letters", "letters", 2), ("short", "short", FAR), ("begin", numbers, 5),
            ("end", [4, *numbers], 5),
        )

    def test_letters(self):
        look_at_refusals(self, is_short, ("letters", "letters", 2), ("value", [], FAR))

    def test_webs_and_rooms(self):
        look_at_refusals(self, short_belongs, ("web", "web", HALF), ("short", "short", FAR))
        look_at_refusals(
            self, short_room, ("web", "web", HALF), ("room", [-1, 2, 10 ** 59, True, False], 1), ("short", "short", FAR)
        )
        look_at_refusal(self, InvalidShort, (((3,), 1),), short_belongs, [HALF, (((3,), 1),)])
        look_at_refusal(self, InvalidShort, (((2,), 1),), short_room, [nothing(1), 0, (((2,), 1),)])


if __name__ == "__main__":
    unittest.main()
