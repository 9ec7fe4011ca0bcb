"""[1] to [3] and the head of the interface: what stands under which name, and how it is called."""

import importlib
import inspect
import pathlib
import re
import unittest

# Each module's functions with their parameters, and its classes with those of their methods.
FUNCTIONS = {
    "walks": "is_walk(value) straight(walk) behind(one, other) back(walk) power(walk, times) core(walk) root(walk)"
             " commute(one, other) turned(walk, other) turned_onto(one, other) least_turned(walk)",
    "orders": "how_many(letters, length) nth_walk(letters, number) number_of(letters, walk) next_walk(letters, walk)"
              " between(letters, first, last, length) how_many_without(letters, told, length)"
              " first_without(letters, told, length)",
    "webs": "is_web(value) web_of(letters, walks) whole(letters) nothing(letters) rooms(web) rank(web)"
            " belongs(web, walk) room_after(web, room, walk) steps_gone(web, walk) first_way(web, room)"
            " least_loop(web, room) contains(web, other)",
    "folding": "petals(letters, walks) joinings(letters, walks) joinings_hold(letters, walks, value)"
               " joined_rooms(letters, walks)",
    "bases": "tree(web) basis(web) written(web, walk) put(letters, walks, writing) free(letters, walks)"
             " relation(letters, walks) is_basis(web, walks) rewriting(web, walks)",
    "cosets": "index(web) open_door(web) coset_walk(web, walk) same_coset(web, one, other) cosets_of_length(web, length)"
              " nth_coset(web, number) coset_number(web, walk) index_within(web, other)",
    "counts": "members_of_length(web, length) members_to(web, length) rest(web, length, modulus) rule(web)"
              " first_unlike_length(one, other) nth_member(web, number) member_number(web, walk) next_member(web, walk)"
              " has_length(web, length) lengths(web) shares(web)",
    "powers": "least_power(web, walk) exponents(web, one, walk, other) power_walk(web, times) greatest_power(web)"
              " is_rooted(web)",
    "shorts": "is_short(letters, value) short_length(letters, short) short_steps(letters, short, place, count)"
              " short_straight(letters, short) same_walk(letters, one, other) first_unlike(letters, one, other)"
              " short_cut(letters, short, begin, end) short_room(web, room, short) short_belongs(web, short)",
    "turns": "is_book(value) place_after(book, place, walk) turn_of(book, walk) short_turn(book, short)"
             " times_round(book, walk) circles(book, walk) parts(book) keepers(book, place) all_keepers(book)"
             " book_of(web)",
    "papers": "paper(web, walks) paper_holds(web, walks, value) paper_places(web, walks) least_paper(web, walks)",
    "indexes": "clubs_number(letters, index) all_webs(letters, index) turned_classes(letters, index)"
               " kept_webs(letters, index) closings(web) closed(web) above(web, index)",
    "meets": "meet(one, other) join(one, other) meet_basis_size(one, other)"
             " common_coset_walk(one, first, other, second)",
    "turned": "turned(web, walk) leads_into(one, other) keeping(web) keeping_index(web) kept_by_all(web)",
    "sums": "sums(letters, walk) lattice(web) sums_index(web) walk_with_sums(web, wanted) sums_bar(web, wanted)"
            " sums_barred(web, wanted, value) web_of_sums(letters, rows)",
    "sendings": "sent(sending, walk) sent_web(sending, web) lost_walk(sending) sent_into(sending, web)",
    "texts": "show_walk(walk) show_web(web) show_short(letters, short) show_book(book)",
    "reading": "read_walk(text) read_web(text) read_short(text) read_book(text)",
}
CLASSES = {
    ("liveweb", "Live"): "__init__(letters) put(walk) turn(walk) cut(web) undo() begin() keep() drop() twin()"
                         " belongs(walk) room_after(walk) __len__() __eq__(other)",
    ("desk", "Desk"): "__init__() execute(line)",
}
PROPERTIES = {("liveweb", "Live"): ["web", "letters", "parts", "story"]}
FOLDER = pathlib.Path(__file__).resolve().parent.parent / "walkclubs"


def calls_in(text):
    """The list of (name, parameters) of a row of calls."""
    return [(name, re.findall(r"\w+", told)) for name, told in re.findall(r"(\w+)\(([^)]*)\)", text)]


def module_of(name):
    return importlib.import_module(f"walkclubs.{name}")


class Interface(unittest.TestCase):
    def look_at_parameters(self, function, names):
        parameters = list(inspect.signature(function).parameters.values())
        self.assertEqual([one.name for one in parameters], names, function)
        for one in parameters:
            self.assertEqual((one.kind, one.default), (one.POSITIONAL_OR_KEYWORD, one.empty), function)

    def test_functions(self):
        for name, text in FUNCTIONS.items():
            for called, names in calls_in(text):
                function = vars(module_of(name))[called]
                self.assertTrue(inspect.isfunction(function))
                self.assertEqual(function.__module__, f"walkclubs.{name}")
                self.look_at_parameters(function, names)

    def test_classes(self):
        for (name, kind), text in CLASSES.items():
            one = vars(module_of(name))[kind]
            self.assertEqual((type(one), one.__module__), (type, f"walkclubs.{name}"))
            self.assertEqual(one.__bases__, (object,))
            for called, names in calls_in(text):
                method = vars(one)[called]
                self.assertTrue(inspect.isfunction(method))
                self.look_at_parameters(method, ["self", *names])
            for called in PROPERTIES.get((name, kind), []):
                self.assertIsInstance(vars(one)[called], property)

    def test_modules(self):
        wanted = {*FUNCTIONS, "errors", *(name for name, _ in CLASSES)}
        self.assertLessEqual(wanted, {path.stem for path in FOLDER.glob("*.py")})
        self.assertEqual([path.name for path in FOLDER.iterdir() if path.is_dir() and path.name != "__pycache__"], [])

    def test_package_says_nothing_more(self):
        named = {word for word in vars(importlib.import_module("walkclubs")) if not word.startswith("__")}
        modules = {path.stem for path in FOLDER.glob("*.py")}
        self.assertLessEqual(named, modules)


if __name__ == "__main__":
    unittest.main()
