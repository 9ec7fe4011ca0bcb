"""[41]: desks, and walkclubs/desk.py."""

import random
import unittest

from tests.helpers import (
    BAD_WEBS, EVEN, HALF, NOTHING, ODD_OBJECTS, WHOLE, great_short, look_at_answer, look_at_refusal, slow_room,
    some_shorts, some_walk, webs_with,
)
from walkclubs.desk import Desk
from walkclubs.errors import (
    ClubError, InvalidCommand, InvalidLetters, InvalidWalk, NoPart, Nothing, NotReady, Unlike,
)
from walkclubs.liveweb import Live
from walkclubs.shorts import short_belongs
from walkclubs.sums import lattice
from walkclubs.texts import show_short, show_walk, show_web
from walkclubs.webs import nothing, rooms, web_of, whole

LINES = [
    "letters 2", "put 1 1", "turn 1", "cut 2: 1 0 / 0 1", "undo", "begin", "keep", "drop", "show", "belongs 1 2",
    "far 2: 1 ^ 10", "room 1", "lattice", "put -", "belongs -", "far 2: -",
]
WITHOUT_VALUES = ("undo", "begin", "keep", "drop", "show", "lattice")
SIGNS = " -0123459.:/;^+x\n"


def desk_with(*lines):
    desk = Desk()
    for line in lines:
        desk.execute(line)
    return desk


def look_at_desk(case, lines):
    """Each line of a row of (line, answer) is answered so."""
    desk = Desk()
    for line, answer in lines:
        look_at_answer(case, answer, desk.execute, line)


def seen(desk):
    """What a desk answers to what only looks; how many deeds its live web can take back is told by taking them."""
    return [desk.execute(line) for line in ("show", "lattice", "room 1", "belongs 1", "far 2: 1 ^ 2")]


class Examples(unittest.TestCase):
    def test_of_the_document(self):
        look_at_desk(self, [
            ("letters 2", "ok"), ("put 1 1", "2"), ("put 2", "2"), ("show", "2: 1 0 / 0 ."),
            ("far 2: 1 ^ 1000; 2 ^ -1", "yes"), ("room 1 2", "-"), ("lattice", "2 0 / 0 1"), ("undo", "put"),
            ("lattice", "2 0"),
        ])

    def test_by_name(self):
        desk = Desk()
        look_at_answer(self, "ok", desk.execute, line="letters 2")
        look_at_answer(self, "1", desk.execute, line="put 2")


class Commands(unittest.TestCase):
    def test_letters(self):
        look_at_desk(self, [
            ("letters 2", "ok"), ("put 1", "1"), ("begin", "ok"), ("letters 2", "ok"), ("show", "2: . ."),
            ("put 1", "1"), ("letters 4", "ok"), ("show", "4: . . . ."), ("letters 1", "ok"), ("show", "1: ."),
            ("letters 3", "ok"), ("lattice", "-"),
        ])
        desk = desk_with("letters 2", "put 1", "begin", "letters 2")
        look_at_refusal(self, NoPart, None, desk.execute, ["keep"])
        look_at_refusal(self, Nothing, None, desk.execute, ["undo"])

    def test_put_turn_cut(self):
        look_at_desk(self, [
            ("letters 2", "ok"), ("put -", "1"), ("put 1 1", "2"), ("put 1 1 2 -2", "2"), ("put 2", "2"),
            ("turn 2 -2 1", "2"), ("show", "2: 1 . / 0 1"), ("turn -", "2"), ("turn 2 2 2", "5"),
            ("turn -2 -2 -2", "2"), ("turn -1", "2"), ("cut 2: 0 0", "2"), ("cut 2: 1 0 / 0 1", "2"),
            ("show", "2: 1 0 / 0 ."),
            ("cut 2: 0 .", "2"), ("show", "2: 1 . / 0 ."), ("cut 2: . .", "1"), ("show", "2: . ."), ("undo", "cut"),
            ("undo", "cut"), ("undo", "cut"), ("undo", "cut"), ("undo", "turn"), ("show", "2: 1 . / 0 1"),
        ])

    def test_parts(self):
        look_at_desk(self, [
            ("letters 2", "ok"), ("put 1 1", "2"), ("begin", "ok"), ("put 2 2", "3"), ("begin", "ok"), ("put 1", "2"),
            ("drop", "ok"), ("show", "2: 1 2 / 0 . / . 0"), ("keep", "ok"), ("undo", "put"), ("begin", "ok"),
            ("begin", "ok"), ("turn 2", "3"), ("keep", "ok"), ("undo", "turn"), ("keep", "ok"), ("undo", "put"),
            ("show", "2: . ."),
        ])
        desk = desk_with("letters 2", "put 1 1", "begin")
        look_at_refusal(self, Nothing, None, desk.execute, ["undo"])
        desk.execute("keep")
        look_at_answer(self, "put", desk.execute, "undo")

    def test_looks(self):
        look_at_desk(self, [
            ("letters 2", "ok"), ("show", "2: . ."), ("lattice", "-"), ("room -", "0"), ("room 1", "-"),
            ("belongs -", "yes"), ("belongs 1 -1", "yes"), ("belongs 1", "no"), ("far 2: -", "yes"),
            ("far 2: 1 ^ 1", "no"), ("far 2: - ^ 7", "yes"), ("put 1 1", "2"), ("put 2", "2"), ("room 1", "1"),
            ("room 1 1", "0"), ("room 2", "0"), ("room 1 2 -2", "1"), ("room 1 2", "-"), ("belongs 2 1 1", "yes"),
            ("belongs 1 2 1", "no"), ("far 2: 1 ^ 1" + "0" * 30, "yes"), ("far 2: 1 ^ -" + "9" * 30, "no"),
            ("far 2: 1 ^ 1; 2 ^ 1; 1 ^ 1", "no"), ("far 2: 1 2 -2 ^ 5; 1 ^ 1", "yes"),
            ("put 1 2 -1", "2"), ("put 1 2 2", "1"), ("lattice", "1 0 / 0 1"), ("letters 3", "ok"),
            ("put 1 1 2 3 3 3", "6"), ("put 2 2 -3", "8"), ("lattice", "2 1 3 / 0 2 -1"), ("letters 1", "ok"),
            ("put -1 -1", "2"), ("lattice", "2"), ("letters 2", "ok"), ("put 1 2 -1 -2", "4"), ("lattice", "-"),
            ("room -2 -1", "-"), ("room 2 1", "3"),
        ])

    def test_against_a_live(self):
        rng = random.Random(1)
        for letters in (1, 2, 3, 4):
            desk, live = desk_with(f"letters {letters}"), Live(letters)
            webs = [web for web in webs_with(letters, letters) if rooms(web) <= 4]
            shorts = some_shorts(letters, letters, 5) + [great_short(letters, rng, 2, 2) for _ in range(5)]
            for _ in range(200):
                walk, web, short = some_walk(letters, rng.randrange(5), rng), rng.choice(webs), rng.choice(shorts)
                text = show_walk(walk)
                rows = lattice(live.web)
                for line, answer in [
                    (f"belongs {text}", "yes" if live.belongs(walk) else "no"), ("show", show_web(live.web)),
                    (f"room {text}", "-" if live.room_after(walk) is None else str(live.room_after(walk))),
                    (f"far {show_short(letters, short)}", "yes" if short_belongs(live.web, short) else "no"),
                    ("lattice", " / ".join(" ".join(map(str, row)) for row in rows) or "-"),
                ]:
                    look_at_answer(self, answer, desk.execute, line)
                word = rng.choice(["put", "put", "turn", "cut", "undo", "undo", "begin", "keep", "drop"])
                told = {"put": walk, "turn": walk, "cut": web}.get(word)
                line = word if told is None else f"{word} {show_web(web) if word == 'cut' else text}"
                if rooms(live.web) > 20 or len(live) >= 20:
                    desk, live = desk_with(f"letters {letters}"), Live(letters)
                self.look(desk, live, line, word, [] if told is None else [told])

    def look(self, desk, live, line, word, told):
        try:
            answer = getattr(live, word)(*told)
        except ClubError as refusal:
            look_at_refusal(self, type(refusal), None, desk.execute, [line])
        else:
            look_at_answer(self, "ok" if answer is None else str(answer), desk.execute, line)


class WrongLines(unittest.TestCase):
    def look(self, line, desk=None):
        """No such line: with a live web and without."""
        for one in (desk or desk_with("letters 2", "put 1 1"), Desk()):
            look_at_refusal(self, InvalidCommand, line, one.execute, [line])

    def test_any_object(self):
        row = ["undo"]
        for bad in [*ODD_OBJECTS, *BAD_WEBS, b"undo", b"letters 2", ("undo",), row, (row, [row]), ("put", "1"), HALF]:
            self.look(bad)
        look_at_refusal(self, InvalidCommand, ["letters 2"], Desk().execute, [["letters 2"]], ["line"])

    def test_near_misses(self):
        # One sign more or less makes a line of other values, or none.
        for line in LINES:
            others = {line[:at] + line[at + 1:] for at in range(len(line))}
            others |= {line[:at] + sign + line[at:] for at in range(len(line) + 1) for sign in SIGNS}
            for other in sorted(others - {line}):
                word, _, text = other.partition(" ")
                is_other = word != line.partition(" ")[0] or word in WITHOUT_VALUES
                if is_other or text[:1] in ("", " ") or text[-1] in " \n":
                    self.look(other)

    def test_lines_that_are_none(self):
        for line in (
            "", " ", "letters", "letters ", "letters two", "letters 2 ", "letters  2", " letters 2", "letters 2 3",
            "letters 02", "letters +2", "letters -0", "letters 00", "letters 2.0", "letters 1_0", "letters \u0662",
            "letters 2\n", "letters -02", "letters --2", "letters -", "letters 0x2", "letters " + "1" * 61,
            "letters -" + "1" * 61, "letters 1" + "0" * 60, "Letters 2", "put", "put ", "put 1,2", "put 1  2",
            "put 1 2 ", "put 0", "put 5", "put 01", "put -0", "put +1", "put (1, 2)", "put - -", "put1", "put\t1",
            "turn", "turn 1 0", "turn 5", "cut", "cut 2", "cut 2: 1", "cut 2: 0", "cut 2: 0 0 ", "cut 2: 1 0 / 0 -1",
            "cut 2:0 0", "cut 5: 0 0 0 0 0", "cut 2: 0 0 / 1 1", "cut 2: 1 2 / . . / . .", "cut -", "cut 1 1",
            "undo ", " undo", "undo 1", "UNDO", "undo undo", "begin 1", "keep 2", "drop -", "show 1", "show ",
            "lattice ", "lattice 2", "belongs", "belongs 1 -5", "belongs yes", "far", "far 2", "far 2:", "far 2: 1",
            "far 2: 1 ^ 0",
            "far 2: 1 ^ 1;", "far 2: 3 ^ 1", "far 0: -", "far 5: -", "far 1 ^ 2", "far -", "far 2: 1 ^ 1" + "0" * 31,
            "far 2: " + "; ".join(["1 ^ 1"] * 61), "room", "room x", "room 1 /", "twin", "story", "web", "help",
            "put put 1", "len", "read 1", "execute undo", "ok", "None", "undo\nundo", "put 1\nput 2",
        ):
            self.look(line)

    def test_lines_that_are_some(self):
        for line in LINES:
            desk = desk_with("letters 2", "begin", "put 1 1")
            self.assertIs(type(desk.execute(line)), str)

    def test_not_ready(self):
        for line in LINES[1:] + ["put 4", "far 1: -", "cut 1: 0", "turn 3", "room -4", "belongs 4 4"]:
            desk = Desk()
            look_at_refusal(self, NotReady, None, desk.execute, [line])
            look_at_refusal(self, NotReady, None, desk.execute, [line], ["line"])
            look_at_answer(self, "ok", desk.execute, "letters 2")
            look_at_answer(self, "2: . .", desk.execute, "show")
        desk = Desk()
        look_at_refusal(self, InvalidLetters, 5, desk.execute, ["letters 5"])
        look_at_refusal(self, NotReady, None, desk.execute, ["show"])


class WrongValues(unittest.TestCase):
    def test_errors_change_nothing(self):
        refused = [
            ("letters 0", InvalidLetters, 0), ("letters 5", InvalidLetters, 5), ("letters -1", InvalidLetters, -1),
            ("letters " + "9" * 60, InvalidLetters, 10 ** 60 - 1),
            ("letters -1" + "0" * 59, InvalidLetters, -10 ** 59), ("put 3", InvalidWalk, (3,)),
            ("put 1 -1 4 -4", InvalidWalk, (1, -1, 4, -4)), ("turn -3", InvalidWalk, (-3,)),
            ("belongs 3 -3", InvalidWalk, (3, -3)), ("room 4", InvalidWalk, (4,)), ("cut 1: 0", Unlike, 1),
            ("cut 3: . . .", Unlike, 3), ("far 1: 1 ^ 2", Unlike, 1), ("far 4: -", Unlike, 4),
            ("far 3: 3 ^ 1", Unlike, 3), ("undo", Nothing, None), ("put 0", InvalidCommand, "put 0"),
            ("far 2: 3 ^ 1", InvalidCommand, "far 2: 3 ^ 1"), ("", InvalidCommand, ""), ([[1]], InvalidCommand, [[1]]),
        ]
        desk = desk_with("letters 2", "put 1 1", "put 2", "turn 1", "begin")
        before = seen(desk)
        for line, error, value in refused:
            look_at_refusal(self, error, value, desk.execute, [line])
            self.assertEqual(seen(desk), before)
        # One part is open, and behind it three deeds stand.
        answers = [desk.execute(line) for line in ("keep", "undo", "undo", "undo")]
        self.assertEqual(answers, ["ok", "turn", "put", "put"])
        look_at_refusal(self, Nothing, None, desk.execute, ["undo"])
        for line in ("keep", "drop"):
            look_at_refusal(self, NoPart, None, desk.execute, [line])
        look_at_answer(self, "2: . .", desk.execute, "show")

    def test_desks_do_not_change_one_another(self):
        one, other = desk_with("letters 2"), desk_with("letters 2", "put 1")
        one.execute("put 2")
        self.assertEqual([one.execute("show"), other.execute("show")], ["2: . 0", "2: 0 ."])
        self.assertEqual([show_web(web) for web in (NOTHING, WHOLE, EVEN, web_of(2, [(1, 1)]), nothing(1), whole(1))],
                         ["2: . .", "2: 0 0", "2: 1 0 / 0 1", "2: 1 . / 0 .", "1: .", "1: 0"])


if __name__ == "__main__":
    unittest.main()
