import unittest

from allzooms import errors
from allzooms.errors import SnapError

ARGUMENTS = {
    "BadRatio": "value", "BadRounding": "part", "BadDrawn": "part", "BadClaim": "part", "BadZooms": "part",
    "BadZoom": "value", "BadScroll": "value", "BadNumber": "value", "BadBox": "part", "BadPage": "part",
    "BadWay": "part", "BadStyle": "part", "BadDrawing": "part", "BadSight": "at", "BadScreen": "part",
    "BadText": "line word", "BadLine": "word", "NoBox": "name", "NoThing": "name", "NoZoom": "zoom",
    "Taken": "name", "Unlike": "part", "Refused": "name", "NoChange": "", "TooMany": "what most",
}


class ErrorsTest(unittest.TestCase):
    def test_base(self):
        self.assertEqual(SnapError.__bases__, (ValueError,))

    def test_all_stand_directly_below_the_base(self):
        found = [name for name, value in vars(errors).items() if isinstance(value, type) and value is not SnapError]
        self.assertEqual(sorted(found), sorted(ARGUMENTS))
        for name in ARGUMENTS:
            self.assertEqual(getattr(errors, name).__bases__, (SnapError,), name)

    def test_arguments_by_position_and_by_name(self):
        values = [object(), [1, {"a": None}]]
        for name, words in ARGUMENTS.items():
            names = words.split()
            told = values[:len(names)]
            kind = getattr(errors, name)
            for error in (kind(*told), kind(**dict(zip(names, told)))):
                for argument, value in zip(names, told):
                    self.assertIs(getattr(error, argument), value)

    def test_wrong_many_arguments(self):
        for name, words in ARGUMENTS.items():
            with self.assertRaises(TypeError):
                getattr(errors, name)(*range(len(words.split()) + 1))

    def test_any_value_has_a_message(self):
        for value in (None, "x", (1, [2, {}]), len, 10 ** 60):
            self.assertIsInstance(str(errors.BadRatio(value)), str)
            self.assertIsInstance(str(errors.TooMany(value, value)), str)


if __name__ == "__main__":
    unittest.main()
