"""[37]: sendings, and walkclubs/sendings.py."""

import itertools
import random
import unittest

from tests.helpers import (
    BAD_SENDINGS, BAD_WEBS, EVEN, HALF, NOTHING, WHOLE, all_straight_to, look_at_answer, look_at_refusal,
    look_at_refusals, renumbered, slow_back, slow_room, slow_steps, slow_straight, slow_web, some_straight, some_walk,
    some_web, webs_with,
)
from walkclubs.bases import basis, free
from walkclubs.errors import InvalidSending, InvalidWalk, InvalidWeb, Unlike
from walkclubs.meets import meet
from walkclubs.sendings import lost_walk, sent, sent_into, sent_web
from walkclubs.sums import web_of_sums
from walkclubs.turned import keeping, turned
from walkclubs.webs import belongs, contains, is_web, nothing, rank, rooms, web_of, whole

TWICE = (2, ((1, 1), (2,)))
SWAP = (2, ((2,), (1,)))
AROUND = (2, ((-2, 1, 2), (-2, 2, 2)))
SAME = [(letters, tuple((letter,) for letter in range(1, letters + 1))) for letters in (1, 2, 3, 4)]
LOSING = (2, ((1, 2), (2, 1), (1, 2, 2, 1, 1, 2)))
TWELVE = some_web(2, 12, random.Random(70))
SIXTY = some_web(4, 60, random.Random(80))
RING = web_of(2, [(1,) * 60])


def slow_sent(sending, walk):
    """Step by step, put behind one another and straightened at the end."""
    steps = ()
    for step in walk:
        image = sending[1][abs(step) - 1]
        steps += image if step > 0 else slow_back(image)
    return slow_straight(steps)


def some_sending(letters, many, longest, rng):
    return letters, tuple(some_walk(letters, rng.randrange(longest + 1), rng) for _ in range(many))


def some_sendings(seed, many=60, longest=6):
    rng = random.Random(seed)
    made = [some_sending(rng.randrange(1, 5), rng.randrange(1, 5), longest, rng) for _ in range(many)]
    return [TWICE, SWAP, AROUND, LOSING, *SAME, (1, ((),)), (4, ((), (), (), ())), (3, ((1, 2, 3),)), *made]


def keeps_all(sending):
    return free(sending[0], list(sending[1]))


class Examples(unittest.TestCase):
    def test_of_the_document(self):
        for expected, function, *arguments in [
            ((1, 1, 2, -1, -1), sent, TWICE, (1, 2, -1)), (HALF, sent_web, TWICE, (2, ((0, 0),))),
            (None, lost_walk, TWICE), ((2, ((0, 0),)), sent_into, TWICE, (2, ((1, 0), (0, 1)))),
        ]:
            look_at_answer(self, expected, function, *arguments)

    def test_by_name(self):
        look_at_answer(self, (1, 1, 2, -1, -1), sent, walk=(1, 2, -1), sending=TWICE)
        look_at_answer(self, HALF, sent_web, web=WHOLE, sending=TWICE)
        look_at_answer(self, None, lost_walk, sending=TWICE)
        look_at_answer(self, WHOLE, sent_into, web=EVEN, sending=TWICE)


class Sent(unittest.TestCase):
    def test_step_by_step(self):
        rng = random.Random(1)
        for sending in some_sendings(1):
            for length in (0, 1, 2, 5, 60):
                walk = some_walk(len(sending[1]), length, rng)
                look_at_answer(self, slow_sent(sending, walk), sent, sending, walk)
                look_at_answer(self, slow_sent(sending, walk), sent, sending, slow_straight(walk))

    def test_edges(self):
        look_at_answer(self, (), sent, TWICE, ())
        look_at_answer(self, (), sent, TWICE, (1, -1))
        look_at_answer(self, (), sent, (2, ((1,), (-1,))), (1, 2))
        look_at_answer(self, (-2, -1), sent, (2, ((1, 2),)), (-1,))
        look_at_answer(self, (1, 1), sent, (2, ((1, 2, -2, 1),)), (1,))
        look_at_answer(self, (), sent, (3, ((2, -2),)), (1, 1, 1))
        look_at_answer(self, (4, 4), sent, (4, ((1,), (2,), (3,), (4,))), (4, 4))
        # More letters there than here, and fewer.
        look_at_answer(self, (1, 1, 1), sent, (1, ((1,), (1,), (1,), (1,))), (4, 3, 2))
        look_at_answer(self, (4, -1), sent, (4, ((4, -1),)), (1,))
        walk = some_straight(4, 400, random.Random(2))
        look_at_answer(self, walk, sent, SAME[3], walk)
        rows = (4, tuple(some_straight(4, 60, random.Random(seed)) for seed in range(4)))
        look_at_answer(self, slow_sent(rows, walk[:60]), sent, rows, walk[:60])


class SentWeb(unittest.TestCase):
    def test_walks_of_a_basis(self):
        for number, sending in enumerate(some_sendings(2)):
            for web in webs_with(len(sending[1]), 100 + number, 4):
                expected = slow_web(sending[0], [slow_sent(sending, walk) for walk in basis(web)])
                look_at_answer(self, expected, sent_web, sending, web)

    def test_known_ones(self):
        for letters, sending in enumerate(SAME, 1):
            for web in webs_with(letters, letters):
                look_at_answer(self, web, sent_web, sending, web)
                look_at_answer(self, nothing(letters), sent_web, (letters, ((),) * letters), web)
        for web in webs_with(2, 5):
            look_at_answer(self, turned(web, (2,)), sent_web, AROUND, web)
            look_at_answer(self, web, sent_web, SWAP, sent_web(SWAP, web))
        look_at_answer(self, nothing(3), sent_web, (3, ((1, 2),)), nothing(1))
        look_at_answer(self, web_of(3, [(1, 2)]), sent_web, (3, ((1, 2),)), whole(1))
        look_at_answer(self, web_of(3, [(1, 2) * 60]), sent_web, (3, ((1, 2),)), web_of(1, [(1,) * 60]))
        # Letters that are sent to nothing, and rooms that become one.
        look_at_answer(self, whole(1), sent_web, (1, ((1,), ())), TWELVE)
        look_at_answer(self, nothing(1), sent_web, (1, ((), (1,))), RING)
        look_at_answer(self, web_of(2, [(2,)]), sent_web, (2, ((), (2,))), HALF)
        look_at_answer(self, web_of(2, [(2, 2)]), sent_web, (2, ((), (2,))), web_of(2, [(1, 2, -1, 2, 1)]))
        # A way that is left with one end is none of the web.
        look_at_answer(self, NOTHING, sent_web, (2, ((1,), (1,))), web_of(2, [(1, -2)]))
        look_at_answer(self, NOTHING, sent_web, (2, ((1, 2, 1),) * 2), web_of(2, [(1, -2), (1, 1, -2, -2)]))

    def test_edges(self):
        rng = random.Random(3)
        for web, letters in ((SIXTY, 4), (TWELVE, 3), (RING, 2)):
            sending = (letters, tuple(some_straight(letters, 60, rng) for _ in range(web[0])))
            there = sent_web(sending, web)
            self.assertTrue(is_web(there))
            self.assertTrue(all(belongs(there, sent(sending, walk)) for walk in basis(web)))
            self.assertEqual(rank(there), rank(web))


class LostWalk(unittest.TestCase):
    def test_of_many_sendings(self):
        lost = kept = 0
        for sending in some_sendings(4, 200, 5):
            walk = lost_walk(sending)
            look_at_answer(self, walk, lost_walk, sending)
            letters = len(sending[1])
            if walk is None:
                kept += 1
                # A club has as many walks in its bases as are sent there, if none is lost.
                self.assertEqual(rank(slow_web(sending[0], list(sending[1]))), letters)
                short = all_straight_to(letters, 3)[1:]
                self.assertTrue(all(slow_sent(sending, other) != () for other in short))
            else:
                lost += 1
                self.assertEqual((type(walk), slow_straight(walk)), (tuple, walk))
                self.assertNotEqual(walk, ())
                self.assertEqual(slow_sent(sending, walk), ())
                self.assertLessEqual(max(abs(step) for step in walk), letters)
        self.assertGreater(min(lost, kept), 40)

    def test_edges(self):
        for sending in SAME:
            look_at_answer(self, None, lost_walk, sending)
        self.assertIn(lost_walk((2, ((),))), [(1,) * many for many in range(-5, 6)] + [(-1,), (-1, -1)])
        for sending in (
            (2, ((1, -1), (2,))), (2, ((1,), ())), (1, ((1,), (1,))), (1, ((1, 1), (1, 1, 1))), (2, ((1, 2), (-2, -1))),
            (2, ((1,), (2,), (1, 2))), (3, ((1,), (2,), (1, 2), (3,))), (1, ((1,) * 7, (1,) * 11, (1,) * 12)), LOSING,
            (4, ((1, 2, 3, 4), (2, 3), (1, -2, 1), (1, 2, 3, 4, 2, 3))), (2, ((1,) * 14, (1,) * 16)),
        ):
            walk = lost_walk(sending)
            self.assertNotEqual(walk, ())
            self.assertEqual((slow_straight(walk), slow_sent(sending, walk)), (walk, ()))
            self.assertTrue(all(1 <= abs(step) <= len(sending[1]) for step in walk))
        look_at_answer(self, None, lost_walk, (2, ((1, 1), (2, 2), (1, 2, 1, 2), (2, 1, 1, 2))))
        look_at_answer(self, None, lost_walk, (4, ((1,), (2,) + (1,) * 9, (3,) + (2,) * 9, (4,) + (3,) * 8)))


class SentInto(unittest.TestCase):
    def test_by_trying_all_walks(self):
        tried = 0
        for number, sending in enumerate(some_sendings(5, 80, 5)):
            if keeps_all(sending):
                tried += 1
                letters = len(sending[1])
                walks = all_straight_to(letters, {1: 12, 2: 5, 3: 3, 4: 2}[letters])
                for web in webs_with(sending[0], 200 + number, 4):
                    answer = sent_into(sending, web)
                    look_at_answer(self, answer, sent_into, sending, web)
                    self.assertTrue(is_web(answer))
                    self.assertEqual(answer[0], letters)
                    for walk in walks:
                        there = slow_room(web, 0, slow_sent(sending, walk))
                        self.assertEqual(slow_room(answer, 0, walk) == 0, there == 0, (sending, web, walk))
                    # All that is in both comes back, and nothing else.
                    both = meet(web, slow_web(sending[0], list(sending[1])))
                    self.assertEqual(slow_web(sending[0], [slow_sent(sending, walk) for walk in basis(answer)]), both)
        self.assertGreater(tried, 40)

    def test_webs_without_doors(self):
        # Their rooms are led on by what is put in the place of letters.
        rng = random.Random(6)
        tried = 0
        for _ in range(120):
            sending = some_sending(2, rng.randrange(1, 4), 9, rng)
            if keeps_all(sending):
                tried += 1
                letters, web = len(sending[1]), some_web(2, rng.randrange(1, 13), rng)
                table = {
                    room: {step: slow_room(web, room, slow_sent(sending, (step,))) for step in slow_steps(letters)}
                    for room in range(rooms(web))
                }
                look_at_answer(self, renumbered(letters, table), sent_into, sending, web)
        self.assertGreater(tried, 40)

    def test_known_ones(self):
        for letters, sending in enumerate(SAME, 1):
            for web in webs_with(letters, 10 + letters):
                look_at_answer(self, web, sent_into, sending, web)
        for web in webs_with(2, 7):
            look_at_answer(self, turned(web, (-2,)), sent_into, AROUND, web)
            look_at_answer(self, sent_web(SWAP, web), sent_into, SWAP, web)
            look_at_answer(self, WHOLE, sent_into, TWICE, sent_web(TWICE, WHOLE))
            look_at_answer(self, web, sent_into, TWICE, sent_web(TWICE, web))
        look_at_answer(self, HALF, sent_into, (2, ((1, 1), (2,))), web_of(2, [(1,) * 4, (2,)]))
        look_at_answer(self, NOTHING, sent_into, TWICE, NOTHING)
        look_at_answer(self, whole(1), sent_into, (4, ((1, 2, 3, 4),)), whole(4))
        look_at_answer(self, nothing(1), sent_into, (4, ((1, 2, 3, 4),)), web_of(4, [(1, 2, 3), (4, 4)]))
        look_at_answer(self, web_of(1, [(1,) * 7]), sent_into, (2, ((1, 2, -1),)), web_of(2, [(1,) + (2,) * 7 + (-1,)]))
        look_at_answer(self, web_of(1, [(1,) * 60]), sent_into, (2, ((1,),)), RING)
        look_at_answer(self, web_of(1, [(1,) * 15]), sent_into, (2, ((1,) * 4,)), RING)
        # The walks that are put in the place of letters go far from the web and come back.
        sending = (2, ((2, 2, 2, 1), (2, 2, 2, 2, 1, 1)))
        look_at_answer(self, web_of(2, [(1, -2)]), sent_into, sending, web_of(2, [(2, 2, 2, -1, -2, -2, -2, -2)]))
        look_at_answer(self, web_of(2, [(-2, 1)]), sent_into, sending, web_of(2, [(-1, -1, -2, 1)]))

    def test_edges(self):
        # A list of free walks by which the letters themselves are written very long.
        far = (4, ((1,), (2,) + (1,) * 9, (3,) + (2,) * 9, (4,) + (3,) * 8))
        for web in (some_web(4, 12, random.Random(8)), SIXTY, web_of(4, [(4,) * 4 + (1,), (4,) * 6])):
            there = sent_into(far, web)
            self.assertTrue(is_web(there))
            look_at_answer(self, web, sent_web, far, there)
        for sending in ((2, ((1, 1), (2, 2), (1, 2, 1, 2), (2, 1, 1, 2))), (2, ((1, 1, 2, 1), (2, 2, 1, 2, 2)))):
            there = sent_into(sending, TWELVE)
            self.assertTrue(contains(TWELVE, sent_web(sending, there)))

    def test_what_is_told_goes_on(self):
        sums_web = web_of_sums(2, [(2, 1), (0, 5)])
        for web in (turned(HALF, (1, 2)), keeping(TWELVE), sums_web, sent_web(TWICE, EVEN), sent_into(TWICE, HALF)):
            look_at_answer(self, web, sent_into, SWAP, sent_web(SWAP, web))
            self.assertTrue(contains(web, sent_web(TWICE, sent_into(TWICE, web))))


class WrongArguments(unittest.TestCase):
    def test_walks(self):
        look_at_refusals(self, sent, ("sending", "sending", TWICE), ("walk", "walk", (1, 2)))
        look_at_refusal(self, InvalidWalk, (2,), sent, [(4, ((1, 2, 3, 4),)), (2,)])
        look_at_refusal(self, InvalidWalk, (1, -4, 4), sent, [(1, ((1,), (1,), (1,))), (1, -4, 4)])
        look_at_refusals(self, lost_walk, ("sending", "sending", TWICE))

    def test_webs(self):
        for function in (sent_web, sent_into):
            look_at_refusals(self, function, ("sending", "sending", TWICE), ("web", "web", HALF))
        one = (3, ((1, 2),))
        for letters in (2, 3, 4):
            look_at_refusal(self, Unlike, letters, sent_web, [one, whole(letters)])
        for letters in (1, 2, 4):
            look_at_refusal(self, Unlike, letters, sent_into, [one, whole(letters)], ["sending", "web"])
        look_at_refusal(self, Unlike, 2, sent_web, [(2, ((), (), ())), HALF])

    def test_sendings_that_lose_walks(self):
        row = (2, ((1, 2), (1, 2)))
        for sending, bad in itertools.product([row, (2, ((),)), (1, ((1,), (1, 1))), LOSING], [None, HALF, *BAD_WEBS]):
            look_at_refusal(self, InvalidSending, sending, sent_into, [sending, bad])
        for bad in BAD_SENDINGS:
            look_at_refusal(self, InvalidSending, bad, sent_into, [bad, None])
        look_at_refusal(self, InvalidWeb, None, sent_web, [row, None])
        look_at_refusal(self, InvalidSending, row, sent_into, [row, whole(3)])


if __name__ == "__main__":
    unittest.main()
