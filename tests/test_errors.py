import unittest

from figurehold import errors
from figurehold.errors import FigureError

NUMBERED = ("BadValue", "BadStep", "BadClaim", "BadPaper", "BadLine")
NAMED = ("BadPoint", "Impossible", "Broken")
WORDED = ("TooMany", "NothingThere")
THINGS = (None, True, False, 0, -7, 10 ** 30, "", "p", "a b\n", (), [], ("a", [1, (None,)]), [["x"], 3])


def attribute_of(word):
    if word in NUMBERED:
        return "at"
    return "name" if word in NAMED else "word"


class ErrorsTest(unittest.TestCase):
    def test_ten_direct_subclasses(self):
        for word in NUMBERED + NAMED + WORDED:
            self.assertEqual(getattr(errors, word).__bases__, (FigureError,), word)
        self.assertEqual(len(FigureError.__subclasses__()), 10)
        self.assertEqual(FigureError.__bases__, (Exception,))

    def test_base_takes_no_arguments(self):
        with self.assertRaises(FigureError):
            raise FigureError()

    def test_attribute_by_position_and_by_name(self):
        for word in NUMBERED + NAMED + WORDED:
            made = getattr(errors, word)
            things = (0, 1, 12) if word in NUMBERED else ("a", "terms", "x_a", "")
            for thing in things:
                for error in (made(thing), made(**{attribute_of(word): thing})):
                    self.assertEqual(getattr(error, attribute_of(word)), thing, word)
                    self.assertIsInstance(str(error), str)

    def test_bad_point_keeps_whatever_was_handed_in(self):
        for thing in THINGS:
            error = errors.BadPoint(thing)
            self.assertEqual(error.name, thing)
            self.assertIs(type(error.name), type(thing))
            self.assertIsInstance(str(error), str)

    def test_caught_by_its_own_name_and_as_figure_error_alone(self):
        words = NUMBERED + NAMED + WORDED
        for word in words:
            for other in words:
                caught = "nothing"
                try:
                    raise getattr(errors, word)(3)
                except getattr(errors, other):
                    caught = "other"
                except FigureError:
                    caught = "base"
                self.assertEqual(caught, "other" if word == other else "base", (word, other))

    def test_no_error_of_pythons_own(self):
        for word in NUMBERED + NAMED + WORDED:
            for other in (ValueError, LookupError, ArithmeticError, TypeError):
                self.assertFalse(issubclass(getattr(errors, word), other))


if __name__ == "__main__":
    unittest.main()
