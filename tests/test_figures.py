"""[10] and [11]: places, what values are, what breaks, and the first figure in whole numbers."""

import copy
import unittest
from fractions import Fraction
from itertools import product
from math import gcd

from figurehold.constructions import Construction, built
from figurehold.errors import BadValue, Broken
from figurehold.figures import first_figure, is_figure, places
from figurehold.triples import conditions, triple
from tests import geometry, plain
from tests.test_triples import some_construction

BASE = (("free", "a"), ("free", "b"), ("slide", "c", "a", "b"))
NAMES = ("x_a", "y_a", "x_b", "y_b", "t_c")
VALUES = (("x_a", 0), ("y_a", (1, 2)), ("x_b", (-7, 3)), ("y_b", -4), ("t_c", (5, 1)))
NO_SEQUENCES = (None, True, False, 0, 5, "", "x_a", "x_a y_a x_b y_b t_c")
NO_FRACTIONS = (
    None, True, False, "", "1", "1/2", (), (1,), (1, 2, 3), [], [1], [1, 2, 3], (2, 4), (0, 2), (-3, 3), (10, 5), (4, 2),
    (1, 0), (0, 0), (1, -1), (-1, -2), (0, -1), (True, 2), (1, True), (False, 1), (None, 1), (1, None), ("1", 2),
    ((1, 1), 1), (1, (1, 1)), [[1], 2], {"n": 1}, {1: 1, 2: 2},
)
NO_UNKNOWNS = (None, True, 0, "", "x", "x_", "x_c", "t_a", "X_a", "a", "x_aa", "x_a ", (), [], ["x_a"], ("x_a",), "\u00e9")


def as_fraction(worth):
    return Fraction(worth) if isinstance(worth, int) else Fraction(*worth)


def some_values(source, construction, size=6):
    """Values out of a random source: integers and fractions, in any sequence."""
    pairs = []
    for name in construction.unknowns():
        worth = Fraction(source.randint(-size, size), source.randint(1, min(size, 4)))
        told = (worth.numerator, worth.denominator)
        pairs.append((name, worth.numerator if worth.denominator == 1 and source.random() < 0.7 else told))
    source.shuffle(pairs)
    return tuple(pairs)


def first_by_trying(unknowns, good):
    """The first good whole numbers, all tuples being tried one by one."""
    most = 0
    while True:
        for numbers in product(range(most + 1), repeat=len(unknowns)):
            if max(numbers, default=most) == most and good(tuple(zip(unknowns, numbers))):
                return tuple(zip(unknowns, numbers))
        most += 1


def kept_conditions(construction, known):
    """Whether the conditions of [9] are kept, step by step, by what they say."""
    asked = {condition[1]: condition for condition in conditions(construction)}
    found = {}
    for step in construction.steps():
        word, *points = asked.get(step[1], (None,))
        p = [found[point] for point in points[1:]]
        if word == "apart" and p[0] == p[1]:
            return False
        if word == "crossing" and geometry.cross(geometry.minus(p[1], p[0]), geometry.minus(p[3], p[2])) == 0:
            return False
        if word == "corner" and geometry.cross(geometry.minus(p[1], p[0]), geometry.minus(p[2], p[0])) == 0:
            return False
        found[step[1]] = geometry.place(step, found, known)
    return True


class PlacesTest(unittest.TestCase):
    def check_places(self, construction, values):
        known = {name: as_fraction(worth) for name, worth in values}
        expected, broken = {}, None
        for step in construction.steps():
            try:
                expected[step[1]] = geometry.place(step, expected, known)
            except geometry.NoPoint:
                broken = step[1]
                break
        self.assertEqual(kept_conditions(construction, known), broken is None)
        self.assertIs(is_figure(construction, values), broken is None)
        if broken is not None:
            with self.assertRaises(Broken) as caught:
                places(construction, values)
            self.assertEqual(caught.exception.name, broken)
            return False
        told = places(construction, values)
        self.assertTrue(plain.is_tuples(told))
        self.assertEqual(tuple(point for point, _ in told), construction.points())
        for point, (x, y) in told:
            self.assertEqual((Fraction(*x), Fraction(*y)), expected[point])
            for n, d in (x, y):
                self.assertIs(type(n), int)
                self.assertIs(type(d), int)
                self.assertGreater(d, 0)
                self.assertEqual(gcd(n, d), 1)
        return True

    def test_against_geometry(self):
        source = plain.source(61)
        seen = {True: 0, False: 0}
        words = ("centre", "foot", "meet", "mirror", "second", "slide", "turn")
        for at in range(60):
            construction = some_construction(source, source.randint(3, 8), *([words] if at < 30 else []))
            for size in (1, 1, 1, 2, 6, 1000):
                seen[self.check_places(construction, some_values(source, construction, size))] += 1
        self.assertGreater(seen[True], 50)
        self.assertGreater(seen[False], 20)

    def test_a_small_one(self):
        told = places(built(BASE), VALUES)
        expected = (
            ("a", ((0, 1), (1, 2))),
            ("b", ((-7, 3), (-4, 1))),
            ("c", ((-35, 3), (-22, 1))),
        )
        self.assertEqual(told, expected)

    def test_places_are_the_values_of_the_triples(self):
        steps = BASE + (("turn", "d", "a", "b", "c"), ("meet", "e", "a", "b", "d", "b"), ("centre", "f", "a", "b", "d"))
        self.assertTrue(self.check_places(built(steps), VALUES))
        # W has a value below 0 here; the fractions stay above a number above 0.
        told = dict(places(built(steps[:4] + (("meet", "e", "b", "d", "a", "b"),)), VALUES))
        self.assertEqual(told["e"], told["b"])

    def test_in_any_sequence_as_lists_or_tuples(self):
        source = plain.source(62)
        construction = built(BASE)
        expected = places(construction, VALUES)
        for _ in range(20):
            values = [list(pair) if source.random() < 0.5 else pair for pair in plain.as_lists(VALUES)]
            values = [(name, tuple(worth) if isinstance(worth, list) else worth) for name, worth in values]
            source.shuffle(values)
            for told in (values, tuple(values), plain.as_lists(values)):
                handed = copy.deepcopy(told)
                self.assertEqual(places(construction, told), expected)
                self.assertIs(is_figure(construction, told), True)
                self.assertEqual(told, handed)
        self.assertEqual(places(construction=construction, values=VALUES), expected)
        self.assertIs(is_figure(construction=construction, values=VALUES), True)
        self.assertEqual(construction.steps(), BASE)

    def test_integers_beside_fractions(self):
        construction = built(BASE)
        integers = [(name, k) for name, k in zip(NAMES, (3, 0, -2, 10 ** 30, 1))]
        fractions = [(name, (k, 1)) for name, k in integers]
        mixed = fractions[:2] + integers[2:]
        self.assertEqual(places(construction, integers), places(construction, fractions))
        self.assertEqual(places(construction, integers), places(construction, mixed))
        large = [(name, (10 ** 30 - k, 10 ** 30 - k - 1)) for name, k in integers[:2]]
        self.assertTrue(self.check_places(construction, large + integers[2:]))

    def test_no_unknowns(self):
        self.assertEqual(places(Construction(), ()), ())
        self.assertIs(is_figure(Construction(), []), True)

    def test_what_was_told_may_be_handed_in(self):
        construction = built(BASE)
        told = dict(places(construction, VALUES))
        again = [("x_a", told["c"][0]), ("y_a", told["c"][1]), ("x_b", 0), ("y_b", 0), ("t_c", 1)]
        self.assertEqual(dict(places(construction, again))["a"], told["c"])


class BadValuesTest(unittest.TestCase):
    def check_bad(self, values, construction=None):
        construction = construction or built(BASE)
        handed = copy.deepcopy(values)
        for action in (places, is_figure):
            with self.assertRaises(BadValue, msg=repr(values)) as caught:
                action(construction, values)
            self.assertEqual(caught.exception.at, 1)
        self.assertEqual(values, handed)

    def test_no_sequence(self):
        for thing in NO_SEQUENCES + ({}, dict(VALUES)):
            self.check_bad(thing)
            self.check_bad(thing, Construction())

    def test_lacking_too_many_twice_or_none(self):
        for at in range(len(VALUES)):
            self.check_bad(VALUES[:at] + VALUES[at + 1:])
            self.check_bad(VALUES + VALUES[at:at + 1])
            self.check_bad(VALUES[:at] + (VALUES[at - 1],) + VALUES[at + 1:])
            self.check_bad(VALUES[:at] + ((VALUES[at - 1][0], 77),) + VALUES[at + 1:])
            for name in NO_UNKNOWNS:
                self.check_bad(VALUES[:at] + ((name, 1),) + VALUES[at + 1:])
                self.check_bad(VALUES + ((name, 1),))
        self.check_bad(())
        self.check_bad([])
        self.check_bad((("x_a", 1),), Construction())

    def test_no_fractions(self):
        for at in range(len(VALUES)):
            for worth in NO_FRACTIONS:
                self.check_bad(VALUES[:at] + ((NAMES[at], worth),) + VALUES[at + 1:])

    def test_no_pairs(self):
        for at in range(len(VALUES)):
            name = NAMES[at]
            for thing in (None, True, 3, name, (), (name,), [name], (name, 1, 1), [name, 1, 2], ((name, 1),), {name: 1}, "ab"):
                self.check_bad(VALUES[:at] + (thing,) + VALUES[at + 1:])
        self.check_bad(sum(VALUES, ()))

    def test_ahead_of_broken(self):
        construction = built(BASE + (("foot", "f", "c", "a", "b"),))
        broken = tuple((name, 0) for name in NAMES)
        with self.assertRaises(Broken):
            places(construction, broken)
        self.check_bad(broken[:-1], construction)
        self.check_bad(broken + (("x_z", 1),), construction)
        self.check_bad(broken[:-1] + (("t_c", True),), construction)
        self.check_bad(broken[:-1] + (("t_c", (0, 3)),), construction)


class BrokenTest(unittest.TestCase):
    FREE = (("free", "a"), ("free", "b"), ("free", "c"), ("free", "d"))

    def check(self, steps, numbers, broken):
        construction = built(self.FREE + steps)
        values = tuple(zip(construction.unknowns(), numbers))
        self.assertIs(is_figure(construction, values), broken is None)
        if broken is None:
            self.assertEqual(len(places(construction, values)), len(construction.points()))
            return
        with self.assertRaises(Broken) as caught:
            places(construction, values)
        self.assertEqual(caught.exception.name, broken)

    def test_points_that_must_be_apart(self):
        for step in (("foot", "p", "c", "a", "b"), ("mirror", "p", "c", "a", "b"), ("second", "p", "a", "b", "c")):
            self.check((step,), (1, (1, 2), 1, (1, 2), 3, 4, 5, 6), "p")
            self.check((step,), (1, (1, 2), 1, (1, 3), 3, 4, 5, 6), None)
            self.check((step,), (1, 2, 2, 2, 1, 2, 1, 2), None)

    def test_lines_that_must_cross(self):
        step = ("meet", "p", "a", "b", "c", "d")
        self.check((step,), (0, 0, 1, 1, 0, 1, 1, 0), None)
        self.check((step,), (0, 0, 1, 1, 0, 1, 1, 2), "p")
        self.check((step,), (0, 0, 1, 1, 2, 2, 3, 3), "p")
        self.check((step,), (4, 5, 4, 5, 0, 1, 1, 0), "p")
        self.check((step,), (0, 0, 1, 1, 7, 8, 7, 8), "p")
        self.check((step,), (0, 0, 1, 1, 0, 0, 1, 2), None)

    def test_corners_that_must_be_on_no_line(self):
        step = ("centre", "p", "a", "b", "c")
        self.check((step,), (0, 0, 1, 0, 0, 1, 9, 9), None)
        self.check((step,), (0, 0, 1, 1, (1, 2), (1, 2), 9, 9), "p")
        self.check((step,), (3, 3, 3, 3, 0, 1, 9, 9), "p")

    def test_the_first_point_that_cannot_be_made(self):
        steps = (("foot", "p", "c", "a", "b"), ("meet", "q", "a", "b", "c", "d"), ("over", "r", "q", "p"))
        self.check(steps, (1, 1, 1, 1, 2, 2, 2, 2), "p")
        self.check(steps, (1, 1, 2, 1, 2, 2, 2, 2), "q")
        self.check(steps, (1, 1, 2, 1, 2, 2, 2, 3), None)
        self.check(steps[1:2] + steps[:1], (1, 1, 1, 1, 2, 2, 2, 2), "q")

    def test_points_made_of_made_ones(self):
        steps = (("foot", "p", "c", "a", "b"), ("foot", "q", "a", "c", "p"), ("over", "r", "q", "a"))
        self.check(steps, (0, 0, 2, 0, 1, 1, 0, 0), None)
        self.check(steps, (0, 0, 2, 0, 1, 0, 0, 0), "q")


class FirstFigureTest(unittest.TestCase):
    def check(self, construction):
        found = first_figure(construction)
        self.assertTrue(plain.is_tuples(found))
        self.assertTrue(all(type(k) is int for _, k in found))

        def good(pairs):
            try:
                geometry.places(construction.steps(), {name: Fraction(k) for name, k in pairs})
            except geometry.NoPoint:
                return False
            return True

        self.assertEqual(found, first_by_trying(construction.unknowns(), good), construction.steps())
        self.assertIs(is_figure(construction, found), True)
        self.assertEqual(first_figure(construction=construction), found)

    def test_no_unknowns(self):
        self.assertEqual(first_figure(Construction()), ())

    def test_nothing_is_asked(self):
        self.assertEqual(first_figure(built(BASE)), tuple((name, 0) for name in NAMES))
        self.check(built((("free", "zz"), ("slide", "a", "zz", "zz"))))

    def test_told_in_the_sequence_of_unknowns(self):
        construction = built((("free", "d"), ("free", "b"), ("slide", "c", "d", "b"), ("foot", "f", "d", "c", "b")))
        expected = (("x_d", 0), ("y_d", 0), ("x_b", 0), ("y_b", 1), ("t_c", 0))
        self.assertEqual(first_figure(construction), expected)
        self.check(construction)

    def test_by_the_greatest_one_first(self):
        # The feet keep t_d from the numbers below many, whatever the others are.
        steps = (("free", "a"), ("free", "b"), ("part", "e", "a", "b", 2, 1), ("part", "f", "a", "b", 3, 1))
        steps = steps + (("turn", "c", "a", "a", "b"), ("slide", "d", "a", "b"))
        feet = tuple(("foot", "ghij"[at], "c", "d", "abef"[at]) for at in range(4))
        for many in range(5):
            construction = built(steps + feet[:many])
            self.assertEqual(first_figure(construction)[-1], ("t_d", many))
            if many < 4:
                self.check(construction)
            construction.add(("slide", "k", "a", "b"))
            self.assertEqual(first_figure(construction)[-2:], (("t_d", many), ("t_k", 0)))

    def test_then_as_tuples(self):
        # Among those of one greatest number the least tuple comes first, wherever that number stands.
        steps = (("free", "a"), ("free", "b"), ("turn", "c", "a", "a", "b"), ("slide", "d", "a", "b"), ("slide", "e", "a", "b"))
        self.check(built(steps + (("foot", "f", "c", "d", "e"),)))
        self.check(built(steps + (("meet", "f", "c", "d", "b", "e"),)))
        self.check(built(steps + (("centre", "f", "c", "d", "e"), ("foot", "g", "c", "a", "e"))))

    def test_against_trying(self):
        source = plain.source(63)
        words = ("centre", "foot", "meet", "mirror", "part", "second", "shift", "slide", "turn")
        seen = 0
        while seen < 25:
            construction = some_construction(source, source.randint(4, 8), words)
            greatest = max(k for _, k in first_figure(construction))
            if greatest > 0 and (greatest + 1) ** len(construction.unknowns()) < 2500:
                self.check(construction)
                seen += 1

    def test_eight_unknowns(self):
        steps = (("free", "a"), ("free", "b"), ("free", "c"), ("slide", "g", "a", "c"), ("slide", "d", "a", "b"))
        steps = steps + (("part", "e", "a", "b", 2, 1), ("foot", "p", "c", "d", "a"), ("foot", "q", "c", "d", "b"))
        construction = built(steps + (("foot", "r", "c", "d", "e"),))
        found = first_figure(construction)
        self.assertEqual([k for _, k in found], [0, 0, 0, 1, 0, 0, 0, 3])

    def test_first_numbers_break_no_triple(self):
        construction = built(BASE + (("foot", "f", "a", "b", "c"),))
        before = [triple(construction, point) for point in construction.points()]
        first_figure(construction)
        self.assertEqual([triple(construction, point) for point in construction.points()], before)
        self.assertEqual(construction, built(BASE + (("foot", "f", "a", "b", "c"),)))


if __name__ == "__main__":
    unittest.main()
