"""[3]: the errors, and what stands in them."""

import unittest

import walkclubs.errors as errors
from tests.helpers import look_at_refusal, nested
from walkclubs.errors import ClubError, InvalidNumber, InvalidWalk, InvalidWeb, Unlike
from walkclubs.walks import back, behind, power
from walkclubs.webs import belongs, contains, room_after, web_of

NAMES = [
    "InvalidLetters", "InvalidWalk", "InvalidWeb", "InvalidNumber", "InvalidWriting", "InvalidShort", "InvalidBook",
    "InvalidWalks", "InvalidSums", "InvalidRows", "InvalidSending", "Unreadable", "InvalidCommand", "Unlike",
    "NotWithin", "OpenDoor", "TooMany", "Nothing", "NoPart", "NotReady",
]


class Classes(unittest.TestCase):
    def test_bases(self):
        self.assertEqual(ClubError.__bases__, (ValueError,))
        for name in NAMES:
            self.assertEqual(getattr(errors, name).__bases__, (ClubError,))
        listed = [name for name, kind in vars(errors).items() if isinstance(kind, type)]
        self.assertEqual(sorted(listed), sorted(NAMES + ["ClubError"]))

    def test_value_is_kept_itself(self):
        row = [1, [2]]
        for name in ["ClubError", *NAMES]:
            kind = getattr(errors, name)
            for value in (None, 3, True, "text", (), row, (row, row), {1: row}, object()):
                self.assertIs(kind(value).value, value)
                self.assertIs(kind(value=value).value, value)
            with self.assertRaises(TypeError):
                kind()
            with self.assertRaises(TypeError):
                kind(1, 2)

    def test_caught_as_value_error(self):
        with self.assertRaises(ValueError):
            back((0,))
        with self.assertRaises(ClubError):
            web_of(5, [])


class Values(unittest.TestCase):
    def test_lists_are_new(self):
        row = [1]
        for walk in ([row, row], (row, row), (row, (row, [row])), [], [()], nested(99), [[[]], ([],)]):
            look_at_refusal(self, InvalidWalk, walk, back, [walk])
            look_at_refusal(self, InvalidWeb, (2, walk), belongs, [(2, walk), (1,)])

    def test_dicts_and_sets_stay(self):
        value = ({1: [2]}, {3})
        with self.assertRaises(InvalidWalk) as caught:
            back(value)
        self.assertEqual(caught.exception.value, value)

    def test_walks_stand_as_they_were_passed(self):
        look_at_refusal(self, InvalidWalk, (1, -1, 3, -3), web_of, [2, [(1, -1), (1, -1, 3, -3), (0,)]])
        look_at_refusal(self, InvalidWalk, (3, -3), belongs, [(2, ((0, 0),)), (3, -3)])

    def test_sequence_of_parameters(self):
        look_at_refusal(self, InvalidWalk, (0,), behind, [(0,), [1]])
        look_at_refusal(self, InvalidWalk, [1], power, [[1], 21])
        look_at_refusal(self, InvalidNumber, 1, room_after, [(2, ((0, 0),)), 1, (3,)])
        look_at_refusal(self, InvalidWeb, None, contains, [(2, ((0, 0),)), None])
        look_at_refusal(self, InvalidWeb, None, contains, [None, (1, ((0,),))])
        look_at_refusal(self, Unlike, 1, contains, [(2, ((0, 0),)), (1, ((0,),))])

    def test_great_numbers_are_refused_too(self):
        for number in (10 ** 5000, -10 ** 5000):
            with self.assertRaises(InvalidNumber) as caught:
                power((1,), number)
            self.assertEqual(caught.exception.value, number)


if __name__ == "__main__":
    unittest.main()
