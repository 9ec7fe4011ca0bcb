"""[38]: live webs, and walkclubs/liveweb.py."""

import functools
import random
import unittest

from tests.helpers import (
    BAD_LETTERS, EVEN, HALF, NOTHING, WHOLE, look_at_answer, look_at_refusal, look_at_refusals, slow_room, slow_steps,
    slow_web, some_straight, some_walk, some_web, turned_by, webs_with,
)
from walkclubs.bases import basis
from walkclubs.errors import InvalidLetters, InvalidWalk, InvalidWeb, NoPart, Nothing, Unlike
from walkclubs.liveweb import Live
from walkclubs.meets import meet
from walkclubs.webs import is_web, nothing, rooms, web_of, whole

WORDS = ["put", "put", "put", "turn", "cut", "undo", "undo", "begin", "keep", "drop", "twin"]


@functools.lru_cache(None)
def web_behind(letters, story):
    """The web behind some deeds, one behind the other."""
    if not story:
        return nothing(letters)
    web = web_behind(letters, story[:-1])
    word, told = story[-1]
    if word == "put":
        return slow_web(letters, [*basis(web), told])
    return turned_by(web, told) if word == "turn" else meet(web, told)


class Model:
    """What the document says of a Live, plainly: deeds and beginnings stand in one row, the web is made anew of it."""

    def __init__(self, letters, row=()):
        self.letters = letters
        self.row = list(row)

    def story(self):
        return tuple(entry for entry in self.row if entry != "begin")

    def web(self):
        return web_behind(self.letters, self.story())

    def undo(self):
        if not self.row or self.row[-1] == "begin":
            return Nothing
        return self.row.pop()[0]

    def end_part(self, stays):
        if "begin" not in self.row:
            return NoPart
        at = len(self.row) - 1 - self.row[::-1].index("begin")
        self.row[at:] = self.row[at + 1:] if stays else []
        return None


def look_at_live(case, live, model, rng):
    """A Live is as its model tells."""
    web = model.web()
    case.assertEqual((live.web, live.letters, live.parts), (web, model.letters, model.row.count("begin")))
    case.assertEqual((live.story, len(live)), (model.story(), len(model.story())))
    case.assertEqual((type(live.web), type(live.story)), (tuple, tuple))
    walk = some_walk(model.letters, rng.randrange(5), rng)
    room = slow_room(web, 0, walk)
    look_at_answer(case, room, live.room_after, walk)
    look_at_answer(case, room == 0, live.belongs, walk=walk)


def state(live):
    return live.web, live.letters, live.parts, live.story, len(live)


def some_live():
    live = Live(2)
    live.put((1, 1))
    live.begin()
    live.turn((1,))
    return live


class Examples(unittest.TestCase):
    def test_of_the_document(self):
        live = Live(2)
        self.assertEqual(
            [live.put((1, 1)), live.put((2,)), live.web, live.belongs((1, 2, -1)), live.put((1, 2, -1)), live.web,
             live.undo(), len(live)],
            [2, 2, (2, ((1, 0), (0, -1))), False, 2, (2, ((1, 0), (0, 1))), "put", 2],
        )

    def test_by_name(self):
        live = Live(letters=2)
        look_at_answer(self, 2, live.put, walk=(1, 1))
        look_at_answer(self, 4, live.turn, walk=(2, 1))
        look_at_answer(self, 1, live.cut, web=web_of(2, [(2, 2)]))
        look_at_answer(self, None, live.room_after, walk=(1,))
        look_at_answer(self, True, live.belongs, walk=())
        self.assertEqual(live.story, (("put", (1, 1)), ("turn", (2, 1)), ("cut", (2, ((-1, 1), (-1, 0))))))

    def test_a_new_one(self):
        for letters in (1, 2, 3, 4):
            live = Live(letters)
            self.assertEqual(state(live), (nothing(letters), letters, 0, (), 0))
            look_at_answer(self, True, live.belongs, ())
            look_at_answer(self, 0, live.room_after, (1, -1))
            look_at_answer(self, None, live.room_after, (letters,))
            look_at_answer(self, False, live.belongs, (letters,))


class Deeds(unittest.TestCase):
    def test_put(self):
        live = Live(2)
        for walk, expected, web in [
            ((), 1, NOTHING), ((1, -1), 1, NOTHING), ((1, 1, 2, -2), 2, web_of(2, [(1, 1)])),
            ((1,) * 4, 2, web_of(2, [(1, 1)])), ((2, -1, -1, 1, 1), 2, HALF), ((1, 2, -1), 2, EVEN),
            ((2, 1), 1, WHOLE), ((1, 2, 2, 2), 1, WHOLE),
        ]:
            look_at_answer(self, expected, live.put, walk)
            self.assertEqual(live.web, web)
        self.assertEqual(len(live), 8)
        self.assertEqual([told for _, told in live.story][:4], [(), (1, -1), (1, 1, 2, -2), (1,) * 4])

    def test_turn(self):
        live = Live(2)
        look_at_answer(self, 1, live.turn, (1, 2, 2))
        self.assertEqual(live.web, NOTHING)
        look_at_answer(self, 2, live.put, (1, 1))
        look_at_answer(self, 3, live.turn, (2,))
        self.assertEqual(live.web, web_of(2, [(-2, 1, 1, 2)]))
        look_at_answer(self, 2, live.turn, (-2, 1))
        self.assertEqual(live.web, web_of(2, [(1, 1)]))
        self.assertEqual(live.story, (("turn", (1, 2, 2)), ("put", (1, 1)), ("turn", (2,)), ("turn", (-2, 1))))

    def test_cut(self):
        live = Live(2)
        look_at_answer(self, 1, live.cut, WHOLE)
        live.put((1,))
        live.put((2,))
        look_at_answer(self, 2, live.cut, EVEN)
        look_at_answer(self, 2, live.cut, HALF)
        look_at_answer(self, 2, live.cut, WHOLE)
        self.assertEqual(live.web, HALF)
        look_at_answer(self, 1, live.cut, NOTHING)
        self.assertEqual((live.web, len(live)), (NOTHING, 7))
        self.assertEqual([live.undo() for _ in range(3)], ["cut"] * 3)
        self.assertEqual((live.web, len(live)), (EVEN, 4))

    def test_deeds_that_change_nothing_are_deeds(self):
        live = Live(2)
        live.put((1, 1))
        for function, told in ((live.put, (1, 1)), (live.turn, ()), (live.turn, (1, 1)), (live.cut, WHOLE)):
            look_at_answer(self, 2, function, told)
        self.assertEqual(len(live), 5)
        self.assertEqual([live.undo() for _ in range(5)], ["cut", "turn", "turn", "put", "put"])
        self.assertEqual(live.web, NOTHING)

    def test_undo(self):
        live = some_live()
        look_at_answer(self, "turn", live.undo)
        before = state(live)
        look_at_refusal(self, Nothing, None, live.undo, [])
        self.assertEqual(state(live), before)
        look_at_answer(self, None, live.keep)
        look_at_answer(self, "put", live.undo)
        look_at_refusal(self, Nothing, None, live.undo, [])
        self.assertEqual(state(live), (NOTHING, 2, 0, (), 0))


class Parts(unittest.TestCase):
    def test_keep(self):
        live = some_live()
        look_at_answer(self, None, live.keep)
        self.assertEqual((live.parts, len(live)), (0, 2))
        self.assertEqual([live.undo(), live.undo()], ["turn", "put"])

    def test_drop(self):
        live = some_live()
        live.put((2,))
        look_at_answer(self, None, live.drop)
        self.assertEqual(state(live), (web_of(2, [(1, 1)]), 2, 0, (("put", (1, 1)),), 1))
        look_at_answer(self, "put", live.undo)

    def test_parts_in_parts(self):
        live = Live(2)
        for walk in ((1, 1), (2, 2), (1, 2)):
            live.put(walk)
            look_at_answer(self, None, live.begin)
        self.assertEqual((live.parts, len(live)), (3, 3))
        live.put((1,))
        live.drop()
        self.assertEqual((live.parts, len(live)), (2, 3))
        live.put((2,))
        live.keep()
        # The deeds of the part that was kept belong to the one around it.
        self.assertEqual((live.parts, [live.undo() for _ in range(3)]), (1, ["put"] * 3))
        look_at_refusal(self, Nothing, None, live.undo, [])
        live.drop()
        self.assertEqual(state(live), (web_of(2, [(1, 1)]), 2, 0, (("put", (1, 1)),), 1))

    def test_parts_of_no_deeds(self):
        live = Live(1)
        for _ in range(5):
            live.begin()
        look_at_refusal(self, Nothing, None, live.undo, [])
        live.keep()
        live.drop()
        live.put((1,))
        live.begin()
        look_at_refusal(self, Nothing, None, live.undo, [])
        live.drop()
        live.drop()
        self.assertEqual(state(live), (nothing(1), 1, 2, (), 0))
        live.drop()
        live.keep()
        for function in (live.keep, live.drop):
            look_at_refusal(self, NoPart, None, function, [])
        self.assertEqual(state(live), (nothing(1), 1, 0, (), 0))

    def test_without_one(self):
        for function in ("keep", "drop"):
            live = Live(3)
            live.put((3, 1))
            before = state(live)
            look_at_refusal(self, NoPart, None, getattr(live, function), [])
            self.assertEqual(state(live), before)


class Twins(unittest.TestCase):
    def test_twin(self):
        live = some_live()
        other = live.twin()
        self.assertIs(type(other), Live)
        self.assertIsNot(other, live)
        self.assertEqual(state(other), (live.web, 2, 0, live.story, 2))
        self.assertEqual((live.parts, other == live), (1, True))
        for function in (other.keep, other.drop):
            look_at_refusal(self, NoPart, None, function, [])
        self.assertEqual([other.undo(), other.undo()], ["turn", "put"])
        look_at_refusal(self, Nothing, None, other.undo, [])
        self.assertEqual((live.web, len(live), live.parts), (web_of(2, [(1, 1)]), 2, 1))

    def test_one_does_not_change_the_other(self):
        live = some_live()
        before = state(live)
        other = live.twin()
        other.put((2, 2))
        other.begin()
        other.cut(NOTHING)
        self.assertEqual(state(live), before)
        there = state(other)
        live.drop()
        live.put((1, 2))
        live.undo()
        live.undo()
        live.begin()
        self.assertEqual(state(other), there)
        other.drop()
        self.assertEqual([other.undo() for _ in range(3)], ["put", "turn", "put"])


class Equal(unittest.TestCase):
    def test_equal_webs_now(self):
        one, other = Live(2), Live(2)
        self.assertTrue(one == other and not one != other)
        one.put((1, 1))
        self.assertTrue(one != other and not one == other)
        other.put((1, 1, 1, 1))
        other.begin()
        other.put((-1, -1))
        self.assertTrue(one == other and not one != other)
        other.drop()
        self.assertFalse(one == other)
        for letters in (1, 3, 4):
            self.assertFalse(Live(2) == Live(letters))

    def test_equal_to_nothing_else(self):
        for live in (Live(2), some_live()):
            for other in (live.web, None, 0, len(live), 1, True, False, "", (), [], (2, ()), [live], live.story, {}):
                self.assertIs(live == other, False)
                self.assertIs(other == live, False)
                self.assertIs(live != other, True)


class LongRows(unittest.TestCase):
    def test_against_the_model(self):
        for seed in range(60):
            rng = random.Random(seed)
            letters = rng.choice([1, 2, 2, 2, 3, 4])
            webs = [web for web in webs_with(letters, seed, 5) if rooms(web) <= 4]
            pairs = [(Live(letters), Model(letters))]
            for _ in range(50):
                at = rng.randrange(len(pairs))
                self.step(pairs, *pairs[at], rng.choice(WORDS), webs, rng)
                for live, model in pairs:
                    look_at_live(self, live, model, rng)
                for live, model in pairs:
                    self.assertEqual([live == other for other, _ in pairs],
                                     [model.web() == other.web() for _, other in pairs])

    def step(self, pairs, live, model, word, webs, rng):
        if word in ("put", "turn", "cut"):
            told = rng.choice(webs) if word == "cut" else some_walk(model.letters, rng.randrange(4), rng)
            after = Model(model.letters, [*model.row, (word, told)]).web()
            if len(model.story()) >= 20 or rooms(after) > 20:
                return
            look_at_answer(self, rooms(after), getattr(live, word), told)
            model.row.append((word, told))
        elif word == "undo":
            answer = model.undo()
            self.look_at_end(live, live.undo, answer)
        elif word == "begin":
            look_at_answer(self, None, live.begin)
            model.row.append("begin")
        elif word == "twin":
            if len(pairs) < 4:
                pairs.append((live.twin(), Model(model.letters, model.story())))
        else:
            self.look_at_end(live, getattr(live, word), model.end_part(word == "keep"))

    def look_at_end(self, live, function, answer):
        if answer in (Nothing, NoPart):
            before = state(live)
            look_at_refusal(self, answer, None, function, [])
            self.assertEqual(state(live), before)
        else:
            look_at_answer(self, answer, function)


class Bounds(unittest.TestCase):
    def test_twenty_deeds_and_forty_rooms(self):
        rng = random.Random(1)
        for letters in (2, 4):
            web = some_web(letters, 40, rng)
            live = Live(letters)
            for walk in (basis(web) * 19)[:18]:
                live.put(walk)
            live.turn(some_straight(letters, 60, rng))
            live.cut(nothing(letters))
            self.assertEqual((len(live), live.web), (20, nothing(letters)))
            live.undo()
            self.assertTrue(is_web(live.web))
            look_at_answer(self, rooms(live.web), live.turn, ())
        live = Live(4)
        for step in slow_steps(4):
            live.put((step,) * 2)
        self.assertEqual(live.web, web_of(4, [(letter,) * 2 for letter in (1, 2, 3, 4)]))


class WrongArguments(unittest.TestCase):
    def test_letters(self):
        for bad in BAD_LETTERS:
            look_at_refusal(self, InvalidLetters, bad, Live, [bad])
            look_at_refusal(self, InvalidLetters, bad, Live, [bad], ["letters"])

    def test_walks_and_webs(self):
        live = some_live()
        before = state(live)
        for function in (live.put, live.turn, live.belongs, live.room_after):
            look_at_refusals(self, function, ("walk", "walk", None))
        look_at_refusals(self, live.cut, ("web", "web", None))
        for letters in (1, 3, 4):
            look_at_refusal(self, Unlike, letters, live.cut, [whole(letters)])
            look_at_refusal(self, Unlike, letters, live.cut, [nothing(letters)], ["web"])
        for function in (live.put, live.turn, live.belongs, live.room_after):
            look_at_refusal(self, InvalidWalk, (3, -3), function, [(3, -3)])
        look_at_refusal(self, InvalidWeb, [2, [[0, 0]]], live.cut, [[2, [[0, 0]]]])
        self.assertEqual(state(live), before)
        self.assertEqual(live.undo(), "turn")


if __name__ == "__main__":
    unittest.main()
