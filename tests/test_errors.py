"""Points [3] to [5]: the classes of errors."""
import copy
import unittest

from heednets import errors
from heednets.errors import NetError
from tests.helper import STRANGE

WITH = {
    "given": ("InvalidNet", "InvalidState", "InvalidCell", "InvalidNumber", "InvalidFraction", "InvalidName",
              "InvalidDeed", "InvalidDrawing"),
    "index": ("InvalidLot", "InvalidStates", "InvalidPictures", "InvalidBook", "InvalidLines"),
    "line": ("InvalidText",),
}
WITHOUT = ("NotHelping", "NotScaled", "NothingToUndo", "NothingToRedo")


class Errors(unittest.TestCase):
    def test_base_stands_under_value_error_alone(self):
        self.assertEqual(NetError.__bases__, (ValueError,))
        self.assertEqual(vars(NetError()), {})

    def test_all_others_stand_under_the_base_alone(self):
        names = [name for told in WITH.values() for name in told] + list(WITHOUT)
        self.assertEqual(len(names), 18)
        for name in names:
            self.assertEqual(getattr(errors, name).__bases__, (NetError,), name)
            self.assertEqual(getattr(errors, name).__name__, name)

    def test_each_keeps_its_attribute_whatever_it_is(self):
        for attribute, names in WITH.items():
            for name in names:
                made = getattr(errors, name)
                for value in STRANGE + (0, 7, "given", made):
                    by_position, by_name = made(value), made(**{attribute: value})
                    self.assertEqual(list(vars(by_position)), [attribute])
                    self.assertEqual(list(vars(by_name)), [attribute])
                    self.assertIs(getattr(by_position, attribute), value)
                    self.assertIs(getattr(by_name, attribute), value)

    def test_they_take_their_attribute_and_nothing_else(self):
        for attribute, names in WITH.items():
            for name in names:
                made = getattr(errors, name)
                for values, named in (((), {}), ((1, 2), {}), ((), {"what": 1})):
                    with self.assertRaises(TypeError):
                        made(*values, **named)

    def test_those_without_attributes(self):
        for name in WITHOUT:
            made = getattr(errors, name)
            self.assertEqual(vars(made()), {})
            with self.assertRaises(NetError):
                raise made()

    def test_a_copy_of_an_error_has_its_attribute_too(self):
        for attribute, names in WITH.items():
            for name in names:
                again = copy.copy(getattr(errors, name)(**{attribute: (1, 2)}))
                self.assertEqual(getattr(again, attribute), (1, 2))


if __name__ == "__main__":
    unittest.main()
