import copy
import unittest

from figurehold.constructions import Construction, built
from figurehold.errors import BadStep, BadValue, FigureError, Impossible, TooMany

BASE = (("free", "a"), ("free", "b"), ("free", "c"))
# One good step of each kind over the base.
GOOD = (
    ("free", "p"),
    ("slide", "p", "a", "b"),
    ("part", "p", "a", "b", 1, 2),
    ("shift", "p", "c", "a", "b"),
    ("turn", "p", "c", "a", "b"),
    ("over", "p", "a", "b"),
    ("mirror", "p", "c", "a", "b"),
    ("foot", "p", "c", "a", "b"),
    ("meet", "p", "a", "b", "b", "c"),
    ("second", "p", "a", "b", "c"),
    ("centre", "p", "a", "b", "c"),
)
NO_SEQUENCES = (None, True, False, 0, 3, -10 ** 30, "", "free", "free a")
NO_WORDS = (None, True, 0, "", "fre", "free ", "Free", "FREE", "point", "\u00e9", (), [], ["free"], ("free",), "free\n")
NO_NAMES = (None, True, 0, 1, "", "abcde", "A", "aB", "a1", "a_", " a", "a ", "a\n", "\u00e9", "\u0430", (), [], ["p"], ("p",))
NO_POINTS = NO_NAMES + ("p", "d", "x_a", "ab")


class StepsTest(unittest.TestCase):
    def base(self):
        return built(BASE)

    def check_raises(self, construction, step, made, told):
        """The step raises this error, and changes nothing."""
        before = (construction.steps(), construction.points(), construction.unknowns(), construction.copy())
        handed = copy.deepcopy(step)
        with self.assertRaises(made, msg=repr(step)) as caught:
            construction.add(step)
        error = caught.exception
        kept = {BadStep: "at", Impossible: "name", TooMany: "word"}[made]
        self.assertEqual(getattr(error, kept), told, step)
        after = (construction.steps(), construction.points(), construction.unknowns(), construction)
        self.assertEqual(after, before)
        self.assertEqual(step, handed)

    def check_bad(self, step, at):
        for told in (tuple(step), list(step)):
            self.check_raises(self.base(), told, BadStep, at)

    def test_every_kind_as_tuple_and_as_list(self):
        for step in GOOD:
            for told in (step, list(step)):
                construction = self.base()
                self.assertIsNone(construction.add(told))
                self.assertEqual(construction.steps(), BASE + (step,))
                self.assertIsInstance(construction.steps()[-1], tuple)
                self.assertEqual(construction.points(), ("a", "b", "c", "p"))
        construction = Construction()
        construction.add(step=("free", "a"))
        self.assertEqual(construction.points(), ("a",))

    def test_no_sequence(self):
        for thing in NO_SEQUENCES:
            self.check_raises(self.base(), thing, BadStep, 0)

    def test_no_word(self):
        self.check_bad((), 0)
        for word in NO_WORDS:
            for step in GOOD:
                self.check_bad((word,) + step[1:], 0)
        self.check_bad(("b", "free"), 0)

    def test_another_length(self):
        for step in GOOD:
            for length in range(1, len(step)):
                self.check_bad(step[:length], 0)
            for member in ("a", "q", 1, None, ()):
                self.check_bad(step + (member,), 0)
                self.check_bad((step[0], 5, None) + step[2:], 0)

    def test_bad_new_names(self):
        for step in GOOD:
            for name in NO_NAMES + ("a", "b", "c"):
                self.check_bad((step[0], name) + step[2:], 1)

    def test_bad_elder_points(self):
        for step in GOOD:
            for at in range(2, len(step)):
                if isinstance(step[at], str):
                    for name in NO_POINTS:
                        self.check_bad(step[:at] + (name,) + step[at + 1:], at)

    def test_bad_integers(self):
        for n in (-101, 101, 10 ** 30, True, False, None, "1", "a", (), [1], (1,)):
            self.check_bad(("part", "p", "a", "b", n, 1), 4)
        for d in (0, -1, 101, 10 ** 30, True, False, None, "1", "a", (), [1], (1,)):
            self.check_bad(("part", "p", "a", "b", 1, d), 5)
        for n in (-100, -1, 0, 1, 100):
            for d in (1, 2, 100):
                construction = self.base()
                construction.add(("part", "p", "a", "b", n, d))
                self.assertEqual(construction.steps()[-1], ("part", "p", "a", "b", n, d))

    def test_first_wrong_member(self):
        for step in GOOD:
            for first in range(len(step)):
                wrong = step[:first] + tuple(["?"] * (len(step) - first))
                self.check_bad(wrong, first)
        self.check_bad(("part", "p", "a", "b", 101, 0), 4)
        self.check_bad(("part", "a", "p", "p", 101, 0), 1)

    def test_points_made_later_are_no_elder_points(self):
        construction = Construction()
        self.check_raises(construction, ("over", "p", "p", "p"), BadStep, 2)
        construction.add(("free", "a"))
        self.check_raises(construction, ("over", "p", "a", "b"), BadStep, 3)
        construction.add(("free", "b"))
        construction.add(("over", "p", "a", "b"))
        self.check_raises(construction, ("over", "p", "a", "b"), BadStep, 1)

    def test_elder_points_may_be_alike(self):
        for step in (
            ("slide", "p", "a", "a"),
            ("part", "p", "a", "a", 1, 3),
            ("shift", "p", "a", "a", "a"),
            ("turn", "p", "a", "b", "b"),
            ("over", "p", "a", "a"),
            ("foot", "p", "a", "a", "b"),
            ("mirror", "p", "a", "a", "b"),
            ("meet", "p", "a", "b", "a", "c"),
            ("second", "p", "a", "b", "a"),
        ):
            construction = self.base()
            construction.add(step)
            self.assertEqual(construction.points()[-1], "p")

    def test_names(self):
        construction = Construction()
        for name in ("a", "z", "ab", "abc", "zzzz"):
            construction.add(("part", name, "a", "a", 0, 1) if construction.points() else ("free", name))
        self.assertEqual(construction.points(), ("a", "z", "ab", "abc", "zzzz"))

    def test_impossible(self):
        for step in (
            ("foot", "p", "c", "a", "a"),
            ("mirror", "p", "c", "a", "a"),
            ("second", "p", "a", "a", "c"),
            ("meet", "p", "a", "b", "b", "a"),
            ("meet", "p", "a", "a", "b", "c"),
            ("meet", "p", "a", "b", "c", "c"),
            ("centre", "p", "a", "a", "b"),
            ("centre", "p", "a", "b", "a"),
            ("centre", "p", "a", "b", "b"),
            ("centre", "p", "a", "a", "a"),
        ):
            self.check_raises(self.base(), step, Impossible, "p")
            self.check_raises(self.base(), list(step), Impossible, "p")

    def test_impossible_by_what_is_known_of_elder_points(self):
        construction = self.base()
        construction.add(("part", "m", "a", "b", 1, 2))
        construction.add(("part", "n", "a", "c", 1, 2))
        self.check_raises(construction, ("meet", "p", "m", "n", "b", "c"), Impossible, "p")
        self.check_raises(construction, ("centre", "p", "a", "m", "b"), Impossible, "p")
        construction.add(("part", "k", "b", "a", 2, 4))
        self.check_raises(construction, ("foot", "p", "c", "m", "k"), Impossible, "p")
        self.check_raises(construction, ("second", "qq", "k", "m", "c"), Impossible, "qq")
        construction.add(("foot", "p", "c", "m", "a"))

    def test_errors_in_sequence(self):
        full = Construction()
        full.add(("free", "a"))
        for name in "bcdefghijkl":
            full.add(("part", name, "a", "a", 1, 2))
        self.assertEqual(len(full.points()), 12)
        self.check_raises(full, ("foot", "p", "a", "b", "c"), TooMany, "points")
        self.check_raises(full, ("free", "p"), TooMany, "points")
        self.check_raises(full, ("free", "l"), BadStep, 1)
        self.check_raises(full, ("foot", "p", "a", "b", "p"), BadStep, 4)
        self.check_raises(full, None, BadStep, 0)

    def test_points_ahead_of_unknowns(self):
        construction = built([("free", name) for name in "abcd"])
        for name in "efghijkl":
            construction.add(("over", name, "a", "b"))
        self.check_raises(construction, ("free", "p"), TooMany, "points")
        self.check_raises(construction, ("slide", "p", "a", "b"), TooMany, "points")

    def test_too_many_unknowns(self):
        eight = built([("free", name) for name in "abcd"])
        self.assertEqual(len(eight.unknowns()), 8)
        self.check_raises(eight, ("free", "p"), TooMany, "unknowns")
        self.check_raises(eight, ("slide", "p", "a", "b"), TooMany, "unknowns")
        self.check_raises(eight, ("slide", "p", "a", "p"), BadStep, 3)
        self.check_raises(eight, ("foot", "p", "a", "b", "b"), Impossible, "p")
        eight.add(("over", "p", "a", "b"))
        seven = built(BASE + (("slide", "d", "a", "b"),))
        self.assertEqual(len(seven.unknowns()), 7)
        self.check_raises(seven, ("free", "p"), TooMany, "unknowns")
        seven.add(("slide", "e", "a", "b"))
        self.assertEqual(len(seven.unknowns()), 8)

    def test_a_list_that_is_changed_afterwards(self):
        step = ["part", "p", "a", "b", 1, 2]
        construction = self.base()
        construction.add(step)
        step[4] = 7
        step.append("x")
        self.assertEqual(construction.steps()[-1], ("part", "p", "a", "b", 1, 2))
        self.assertEqual(construction, built(BASE + (("part", "p", "a", "b", 1, 2),)))
        steps = [list(step) for step in BASE]
        construction = built(steps)
        steps[0][1] = "q"
        steps.pop()
        self.assertEqual(construction.steps(), BASE)


class ConstructionsTest(unittest.TestCase):
    def test_empty(self):
        empty = Construction()
        self.assertEqual((empty.steps(), empty.points(), empty.unknowns()), ((), (), ()))

    def test_unknowns_in_the_sequence_of_steps(self):
        steps = (("free", "d"), ("free", "ab"), ("slide", "c", "d", "ab"), ("over", "e", "c", "d"), ("free", "a"))
        construction = built(steps)
        self.assertEqual(construction.steps(), steps)
        self.assertEqual(construction.points(), ("d", "ab", "c", "e", "a"))
        self.assertEqual(construction.unknowns(), ("x_d", "y_d", "x_ab", "y_ab", "t_c", "x_a", "y_a"))

    def test_copy_is_independent(self):
        first = built(BASE)
        second = first.copy()
        self.assertIsInstance(second, Construction)
        self.assertEqual(first, second)
        second.add(("slide", "d", "a", "b"))
        self.assertEqual(first.steps(), BASE)
        self.assertEqual(first.points(), ("a", "b", "c"))
        self.assertEqual(first.unknowns(), built(BASE).unknowns())
        first.add(("foot", "d", "a", "b", "c"))
        self.assertEqual(second.steps()[-1], ("slide", "d", "a", "b"))
        self.assertEqual(second.unknowns()[-1], "t_d")
        first.add(("foot", "e", "d", "a", "b"))
        with self.assertRaises(BadStep):
            second.add(("foot", "f", "e", "a", "b"))
        self.assertEqual(Construction().copy(), Construction())

    def test_equality(self):
        self.assertTrue(Construction() == Construction())
        self.assertFalse(Construction() != Construction())
        one, other = built(BASE), built([list(step) for step in BASE])
        self.assertTrue(one == other)
        self.assertFalse(one != other)
        other.add(("over", "d", "a", "b"))
        self.assertFalse(one == other)
        self.assertTrue(one != other)
        one.add(("over", "d", "b", "a"))
        self.assertTrue(one != other)
        self.assertFalse(built(BASE) == built((BASE[1], BASE[0], BASE[2])))

    def test_equal_to_nothing_else(self):
        one = built(BASE)
        for thing in (None, True, 0, "", (), [], BASE, list(BASE), one.steps(), "a", Construction, object()):
            self.assertFalse(one == thing)
            self.assertTrue(one != thing)
            self.assertFalse(thing == one)
            self.assertFalse(Construction() == thing)

    def test_built(self):
        self.assertEqual(built(()), Construction())
        self.assertEqual(built(steps=[]), Construction())
        by_hand = Construction()
        for step in BASE + GOOD[1:2]:
            by_hand.add(step)
        self.assertEqual(built(BASE + GOOD[1:2]), by_hand)
        self.assertEqual(built([list(step) for step in BASE + GOOD[1:2]]), by_hand)

    def test_built_of_no_sequence(self):
        for thing in NO_SEQUENCES:
            with self.assertRaises(BadValue) as caught:
                built(thing)
            self.assertEqual(caught.exception.at, 0)

    def test_built_tells_the_first_wrong_step(self):
        parts = tuple(("part", name, "a", "b", 1, 2) for name in "defghijkl")
        for steps, made, told in (
            (("free", "a"), BadStep, 0),
            ([None], BadStep, 0),
            (BASE + (("free", "a"), ("nothing",)), BadStep, 1),
            (BASE + (("over", "d", "a", "e"), ("free", "a")), BadStep, 3),
            (BASE + (("foot", "d", "a", "b", "b"), ("free", "a")), Impossible, "d"),
            (BASE + (("free", "d"), ("free", "e"), None), TooMany, "unknowns"),
            (BASE + parts + (("free", "p"), None), TooMany, "points"),
            (BASE + parts + (None, ("free", "p")), BadStep, 0),
        ):
            with self.assertRaises(made) as caught:
                built(steps)
            self.assertIn(told, list(vars(caught.exception).values()))
            self.assertIsInstance(caught.exception, FigureError)

    def test_what_comes_back_is_tuples(self):
        construction = built([list(step) for step in BASE + GOOD[2:3]])
        for told in (construction.steps(), construction.points(), construction.unknowns()):
            self.assertIsInstance(told, tuple)
        for step in construction.steps():
            self.assertIsInstance(step, tuple)


if __name__ == "__main__":
    unittest.main()
