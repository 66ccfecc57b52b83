"""[21] and [22]: the curves on which points run, and what lies on curves."""

import copy
import unittest
from fractions import Fraction
from math import gcd, lcm

from figurehold import loci
from figurehold.constructions import Construction, built
from figurehold.errors import BadPoint, BadValue, Broken
from figurehold.linear import Rows, lowered
from figurehold.loci import locus, on_curve
from figurehold.polys import degree_in
from figurehold.triples import triple
from tests import geometry, plain
from tests.test_deciding import CENTRE, TRIANGLE, free
from tests.test_figures import NO_FRACTIONS, NO_SEQUENCES, as_fraction, some_values
from tests.test_triples import NO_POINTS

SLIDE = free("ab") + (("slide", "c", "a", "b"),)
# Constructions with points on lines, on conics and on other curves.
MOVING = (
    SLIDE + (("turn", "d", "c", "a", "b"), ("foot", "e", "a", "b", "d"), ("over", "f", "e", "c"), ("mirror", "g", "d", "a", "e")),
    SLIDE + (("turn", "d", "a", "a", "b"), ("mirror", "e", "b", "c", "d"), ("foot", "f", "e", "a", "d"), ("meet", "g", "a", "e", "b", "f")),
    TRIANGLE + CENTRE + (("part", "d", "a", "o", 1, 2), ("foot", "e", "a", "b", "c")),
    TRIANGLE + (("slide", "d", "a", "b"), ("foot", "e", "c", "d", "a"), ("part", "f", "c", "d", 2, 1), ("second", "g", "c", "d", "b")),
    SLIDE + (("turn", "d", "b", "a", "b"), ("part", "e", "c", "d", 1, 3), ("turn", "f", "c", "d", "e"), ("second", "g", "d", "f", "a")),
)
NO_UNKNOWNS = (
    None, True, False, 0, 3, "", "x", "x_", "t_a", "x_c", "X_a", "a", "x_aa", "x_a ", "\u00e9", (), [], ["x_a"], ("x_a",), [["t_c"]],
)


def rank_rows(rows):
    """The rows that are left over by the elimination over fractions, each with 1 at its column."""
    kept = []
    for row in rows:
        row = [Fraction(k) for k in row]
        for column, other in kept:
            row = [k - row[column] * m for k, m in zip(row, other)]
        column = next((at for at, k in enumerate(row) if k), None)
        if column is not None:
            row = [k / row[column] for k in row]
            kept = [(at, [k - other[column] * m for k, m in zip(other, row)]) for at, other in kept] + [(column, row)]
    return kept


def whole(row):
    """The fractions times one number, as integers without a common divisor, the first that is not 0 above 0."""
    common = lcm(*(k.denominator for k in row))
    row = [int(k * common) for k in row]
    common = gcd(*row) * (1 if next(k for k in row if k) > 0 else -1)
    return tuple(k // common for k in row)


def equation(rows):
    """The integers that are 0 with each row, or None if there are none."""
    kept = dict(rank_rows(rows))
    if len(kept) == len(rows[0]):
        return None
    missing, = [at for at in range(len(rows[0])) if at not in kept]
    return whole([Fraction(1) if at == missing else -kept[at][missing] for at in range(len(rows[0]))])


def product_of(many):
    """The coefficients, rising, of t * (t - 1) * .. of so many factors."""
    found = [Fraction(1)]
    for k in range(many):
        found = [one - k * other for one, other in zip([0] + found, found + [0])]
    return found


def square_root(p, degree):
    """The polynomial of this degree whose square is p but for terms below the degree."""
    found = [Fraction(0)] * degree + [Fraction(1)]
    for at in range(degree - 1, -1, -1):
        known = sum(found[k] * found[degree + at - k] for k in range(at + 1, degree))
        found[at] = (p[degree + at] - known) / 2
    return found


def squares(x, y):
    return (x * x, x * y, y * y, x, y, 1)


def told(fraction):
    return fraction.numerator, fraction.denominator


def drawn_places(construction, known, unknown, many):
    """By the points: their places at so many numbers at which all can be made."""
    found, k = [], 0
    while len(found) < many:
        k += 1
        try:
            found.append(geometry.places(construction.steps(), {**known, unknown: Fraction(7 * k + 3, 2 + k % 5)}))
        except geometry.NoPoint:
            assert k < 5 * many + 50
    return found


def drawn_curve(places):
    """The curve of [21] through all these places."""
    if len(set(places)) == 1:
        return "point", (told(places[0][0]), told(places[0][1]))
    line = equation([(x, y, Fraction(1)) for x, y in places])
    if line is not None:
        return "line", line
    conic = equation([squares(x, y) for x, y in places])
    return None if conic is None else ("conic", conic)


class LocusTest(unittest.TestCase):
    def check_locus(self, construction, values, unknown, point):
        """The locus is the one by plain geometry; returns its word."""
        known = {name: as_fraction(worth) for name, worth in values}
        degree = max(degree_in(p, unknown) for p in triple(construction, point))
        places = [found[point] for found in drawn_places(construction, known, unknown, 2 * degree + 2)]
        found = locus(construction, values, unknown, point)
        self.assertEqual(found, drawn_curve(places), (construction.steps(), values, unknown, point))
        if found is None:
            return None
        self.assertTrue(plain.is_tuples(found))
        self.assertTrue(all(type(k) is int for k in found[1] if found[0] != "point"))
        for x, y in places:
            self.assertIs(on_curve(found, (told(x), told(y))), True)
        if found[0] == "conic":
            self.assertIsNone(equation([(x, y, Fraction(1)) for x, y in places]))
        return found[0]

    def test_small_ones(self):
        steps = SLIDE + (("turn", "d", "c", "a", "b"), ("foot", "e", "a", "b", "d"), ("over", "f", "e", "c"))
        construction = built(steps + (("part", "m", "a", "b", 1, 3),))
        values = (("x_b", 4), ("x_a", 0), ("y_b", (2, 1)), ("y_a", (0, 1)))
        for point, expected in (
            ("a", ("point", ((0, 1), (0, 1)))), ("b", ("point", ((4, 1), (2, 1)))), ("c", ("line", (1, -2, 0))),
            ("d", ("line", (1, -2, 10))), ("e", ("conic", (1, 0, 1, -4, -2, 0))), ("f", None),
            ("m", ("point", ((4, 3), (2, 3)))),
        ):
            self.assertEqual(locus(construction, values, "t_c", point), expected)
            self.assertEqual(locus(construction, plain.as_lists(values), "t_c", point), expected)
        values = (("x_a", 0), ("y_a", 0), ("x_b", 4), ("t_c", (1, 3)))
        for point, expected in (
            ("a", ("point", ((0, 1), (0, 1)))), ("b", ("line", (1, 0, -4))), ("c", ("line", (3, 0, -4))),
            ("d", ("line", (3, 9, -40))), ("m", ("line", (3, 0, -4))),
        ):
            self.assertEqual(locus(construction=construction, values=values, unknown="y_b", point=point), expected)

    def test_signs(self):
        construction = built(SLIDE)
        for values, expected in (
            ((("x_a", 0), ("y_a", 0), ("x_b", 0), ("y_b", 5)), (1, 0, 0)),
            ((("x_a", 0), ("y_a", -3), ("x_b", 5), ("y_b", -3)), (0, 1, 3)),
            ((("x_a", 0), ("y_a", (1, 2)), ("x_b", 1), ("y_b", (-1, 2))), (2, 2, -1)),
            ((("x_a", (1, 3)), ("y_a", 0), ("x_b", (1, 3)), ("y_b", 1)), (3, 0, -1)),
            ((("x_a", -6), ("y_a", 0), ("x_b", 0), ("y_b", -9)), (3, 2, 18)),
        ):
            self.assertEqual(locus(construction, values, "t_c", "c"), ("line", expected))

    def test_points_that_stay(self):
        # Though their triples have the unknown in them.
        steps = SLIDE + (("free", "d"), ("foot", "e", "d", "a", "c"), ("meet", "f", "a", "c", "d", "e"))
        construction = built(steps)
        values = (("x_a", 0), ("y_a", 0), ("x_b", 2), ("y_b", 1), ("x_d", (3, 2)), ("y_d", 5))
        self.assertGreater(degree_in(triple(construction, "e")[0], "t_c"), 0)
        for point in ("e", "f"):
            self.assertEqual(locus(construction, values, "t_c", point), ("point", ((16, 5), (8, 5))))
        self.assertEqual(locus(construction, values, "t_c", "d"), ("point", ((3, 2), (5, 1))))
        # With these values b is a, so that c stays, too.
        values = (("x_a", 7), ("y_a", (1, 2)), ("x_b", 7), ("y_b", (1, 2)))
        self.assertEqual(locus(built(SLIDE), values, "t_c", "c"), ("point", ((7, 1), (1, 2))))

    def test_a_parabola_and_other_conics(self):
        # The centres of circles through f that touch a line, by the foot on it.
        steps = free("ab") + (("slide", "c", "a", "b"), ("free", "f"), ("turn", "n", "c", "a", "b"), ("part", "m", "c", "f", 1, 2))
        steps = steps + (("turn", "k", "m", "c", "f"), ("meet", "p", "c", "n", "m", "k"))
        construction = built(steps)
        values = (("x_a", 0), ("y_a", 0), ("x_b", 1), ("y_b", 0), ("x_f", 0), ("y_f", 1))
        self.assertEqual(locus(construction, values, "t_c", "p"), ("conic", (1, 0, 0, 0, -2, 1)))
        values = (("x_a", 0), ("y_a", 0), ("x_b", 0), ("y_b", (1, 3)), ("x_f", 3), ("y_f", 2))
        self.assertEqual(locus(construction, values, "t_c", "p"), ("conic", (0, 0, 1, -6, -4, 13)))
        # A hyperbola: the meet of a line that turns around a with one that runs along.
        steps = free("abo") + (("slide", "c", "a", "b"), ("shift", "d", "c", "a", "o"), ("meet", "p", "o", "c", "b", "d"))
        construction = built(steps)
        values = (("x_a", 0), ("y_a", 0), ("x_b", 1), ("y_b", 0), ("x_o", 0), ("y_o", 1))
        self.check_locus(construction, values, "t_c", "p")
        steps = free("abc") + (("part", "d", "c", "b", 3, 2), ("slide", "p", "a", "b"), ("turn", "q", "c", "d", "p"))
        construction = built(steps + (("meet", "r", "p", "d", "q", "c"),))
        values = tuple(zip(construction.unknowns(), (0, 0, 3, 1, 1, 4)))
        words = {self.check_locus(construction, values, "t_p", point) for point in construction.points()}
        self.assertEqual(words, {"point", "line", "conic"})

    def test_lines_of_a_circle_that_is_too_small(self):
        # On a line, though the conics through it are many.
        steps = free("abo") + (("slide", "c", "a", "b"), ("second", "d", "a", "c", "o"))
        construction = built(steps)
        values = (("x_a", 0), ("y_a", 0), ("x_b", 1), ("y_b", 2), ("x_o", 3), ("y_o", 1))
        self.assertEqual(self.check_locus(construction, values, "t_c", "d"), "point")
        self.assertEqual(self.check_locus(construction, values, "t_c", "c"), "line")

    def test_against_geometry(self):
        source = plain.source(211)
        seen = {"broken": 0, "point": 0, "line": 0, "conic": 0, None: 0}
        for at in range(150):
            construction = built(MOVING[at % len(MOVING)])
            unknown = source.choice(construction.unknowns())
            values = tuple(pair for pair in some_values(source, construction, (2, 5)[at % 2]) if pair[0] != unknown)
            try:
                drawn_places(construction, {name: as_fraction(worth) for name, worth in values}, unknown, 1)
            except AssertionError:
                with self.assertRaises(Broken):
                    locus(construction, values, unknown, construction.points()[-1])
                seen["broken"] += 1
                continue
            for point in construction.points():
                seen[self.check_locus(construction, values, unknown, point)] += 1
        self.assertGreater(min(seen.values()), 2, seen)
        self.assertGreater(min(seen["conic"], seen[None]), 30, seen)

    def test_large_values(self):
        construction = built(TRIANGLE + CENTRE + (("slide", "d", "b", "c"), ("second", "e", "a", "d", "o")))
        big = 10 ** 29 + 1
        values = (
            ("x_a", (big, 7)), ("y_a", -big), ("x_b", 10 ** 30), ("y_b", (1, 10 ** 30)), ("x_c", (3, big)), ("y_c", (-big, 2)),
        )
        self.assertEqual(self.check_locus(construction, values, "t_d", "e"), "conic")
        self.assertEqual(self.check_locus(construction, values, "t_d", "d"), "line")
        self.assertEqual(self.check_locus(construction, values[1:] + (("t_d", (5, 3)),), "x_a", "o"), "line")

    def test_enough_numbers_are_looked_at(self):
        # X * X - Y is 0 at the numbers below twice the degree and nowhere else, so that no conic is it.
        for degree in (3, 5, 7):
            whole_one = product_of(2 * degree)
            root = square_root(whole_one, degree)
            square = [sum(root[at] * root[k - at] for at in range(k + 1) if at <= degree and k - at <= degree) for k in range(2 * degree + 1)]
            rest = [one - other for one, other in zip(square, whole_one)]
            parts = [{at: told(k) for at, k in enumerate(part) if k} for part in (root, rest, [Fraction(1)])]
            self.assertEqual(max(parts[0]), degree)
            self.assertLess(max(parts[1]), degree)
            self.assertIsNone(loci._curve(parts))
        # Y is 0 at the numbers below the degree alone.
        for degree in (2, 3, 6):
            part = {at: told(k) for at, k in enumerate(product_of(degree)) if k}
            found = loci._curve([{1: (1, 1)}, part, {0: (1, 1)}])
            self.assertEqual(None if found is None else found[0], "conic" if degree == 2 else None)

    def test_broken(self):
        steps = SLIDE + (("foot", "f", "c", "a", "b"), ("free", "d"), ("meet", "e", "a", "c", "f", "d"), ("foot", "g", "d", "c", "f"))
        construction = built(steps[:4] + steps[4:6])
        same = (("x_a", 1), ("y_a", 2), ("x_b", 1), ("y_b", 2), ("x_d", 4), ("y_d", 4))
        line = (("x_a", 0), ("y_a", 0), ("x_b", 1), ("y_b", 1), ("x_d", 4), ("y_d", 4))
        good = (("x_a", 0), ("y_a", 0), ("x_b", 1), ("y_b", 1), ("x_d", 4), ("y_d", 5))
        for values, name in ((same, "f"), (line, "e")):
            # Of whichever point, also of what the point does not hang on.
            for point in construction.points():
                with self.assertRaises(Broken) as caught:
                    locus(construction, values, "t_c", point)
                self.assertEqual(caught.exception.name, name)
        self.assertEqual(locus(construction, good, "t_c", "e"), ("line", (1, -1, 0)))
        # With the one unknown open the third polynomial is 0 at some numbers alone: not broken.
        self.assertEqual(locus(construction, line[:5] + (("t_c", 3),), "y_d", "e"), ("point", ((3, 1), (3, 1))))
        with self.assertRaises(Broken) as caught:
            locus(construction, same[:5] + (("t_c", 3),), "y_d", "a")
        self.assertEqual(caught.exception.name, "f")
        self.assertEqual(locus(construction, same[:3] + same[4:] + (("t_c", 3),), "y_b", "f")[0], "line")

    def test_errors_in_sequence(self):
        construction = built(SLIDE + (("foot", "f", "c", "a", "b"),))
        broken = (("x_a", 1), ("y_a", 2), ("x_b", 1), ("y_b", 2))
        good = (("x_a", 1), ("y_a", 2), ("x_b", 3), ("y_b", 2))
        no_values = list(NO_SEQUENCES) + [
            (), good[:3], good + (("t_c", 1),), good + (("x_a", 1),), good[:3] + good[:1], good[:3] + (("t_c", 1),),
            good[:3] + (("y_c", 2),), good[:3] + (None,), good[:3] + (("y_b",),), good[:3] + (("y_b", 1, 2),), good[:3] + ("y_b",),
            good[:3] + (([], 1),), good[:3] + (("x_f", 1),),
        ] + [good[:3] + (("y_b", thing),) for thing in NO_FRACTIONS]
        for unknown in NO_UNKNOWNS:
            for values in (good, broken, None, no_values[-1]):
                for point in ("a", "q", None):
                    self.check_raises(construction, values, unknown, point, BadValue, 2)
        for values in no_values:
            for point in ("a", "f", "q", []):
                self.check_raises(construction, values, "t_c", point, BadValue, 1)
        for values in (good, broken):
            for point in NO_POINTS:
                self.check_raises(construction, values, "t_c", point, BadPoint, point)
        self.check_raises(construction, broken, "t_c", "a", Broken, "f")
        self.check_raises(Construction(), (), "x_a", "a", BadValue, 2)
        # What is left out is the unknown that is told, not another one.
        self.check_raises(construction, good, "x_a", "c", BadValue, 1)

    def check_raises(self, construction, values, unknown, point, made, expected):
        handed = copy.deepcopy((values, unknown, point))
        with self.assertRaises(made) as caught:
            locus(construction, values, unknown, point)
        self.assertEqual(list(vars(caught.exception).values()), [expected])
        self.assertEqual((values, unknown, point), handed)


class OnCurveTest(unittest.TestCase):
    def test_points(self):
        for curve in (("point", ((1, 2), (-3, 1))), ["point", [[1, 2], [-3, 1]]], ("point", ([1, 2], (-3, 1)))):
            self.assertIs(on_curve(curve, ((1, 2), (-3, 1))), True)
            self.assertIs(on_curve(curve, [[1, 2], [-3, 1]]), True)
            self.assertIs(on_curve(curve, ((-3, 1), (1, 2))), False)
            self.assertIs(on_curve(curve=curve, place=((1, 2), (3, 1))), False)
            self.assertIs(on_curve(curve, ((0, 1), (-3, 1))), False)

    def test_lines(self):
        for curve in (("line", (2, -3, 4)), ["line", [2, -3, 4]]):
            for x, y in ((-2, 0), (1, 2), (Fraction(1, 2), Fraction(5, 3)), (0, Fraction(4, 3))):
                self.assertIs(on_curve(curve, (told(Fraction(x)), told(Fraction(y)))), True)
                self.assertIs(on_curve(curve, [list(told(Fraction(x))), told(Fraction(y) + 1)]), False)
        self.assertIs(on_curve(("line", (0, 1, 0)), ((5, 3), (0, 1))), True)
        self.assertIs(on_curve(("line", (1, 0, 0)), ((5, 3), (0, 1))), False)

    def test_conics(self):
        for row, good in (
            ((1, 0, 1, 0, 0, -25), ((3, 4), (-5, 0), (Fraction(7, 5), Fraction(24, 5)))),
            ((1, 0, 0, 0, -2, 1), ((1, 1), (3, 5), (0, Fraction(1, 2)))),
            ((0, 1, 0, 0, 0, -1), ((2, Fraction(1, 2)), (-1, -1))),
            # Two lines, one line twice, one point, and no point at all.
            ((1, 0, -1, 0, 0, 0), ((2, 2), (3, -3), (0, 0))),
            ((1, -2, 1, 0, 0, 0), ((2, 2), (Fraction(-1, 3), Fraction(-1, 3)))),
            ((1, 0, 1, 0, 0, 0), ((0, 0),)),
            ((1, 0, 1, 0, 0, 1), ()),
            ((0, 0, 1, -6, -4, 13), ((Fraction(13, 6), 0), (Fraction(3, 2), 2))),
            ((1, 2, 3, 4, 5, -15), ((1, 1),)),
        ):
            for curve in (("conic", row), ["conic", list(row)]):
                for x, y in good:
                    self.assertIs(on_curve(curve, (told(Fraction(x)), told(Fraction(y)))), True, (row, x, y))
                for x in (Fraction(k, 2) for k in range(-9, 9)):
                    for y in (Fraction(k, 3) for k in range(-9, 9)):
                        expected = sum(k * part for k, part in zip(row, squares(x, y))) == 0
                        self.assertIs(on_curve(curve, (told(x), told(y))), expected)

    def test_no_curves(self):
        wrong = [None, True, False, 0, 5, "", "line", "conic", (), [], ("line",), ((1, 0, 0),), (1, 0, 0), ("line", 1, 0, 0), {}]
        wrong += [("line", (1, 0, 0), None), (None, (1, 0, 0)), (["line"], (1, 0, 0)), ("Line", (1, 0, 0)), ("circle", (1, 0, 1, 0, 0, -1))]
        wrong += [("lines", (1, 0, 0)), ("line ", (1, 0, 0)), (0, (1, 0, 0)), ((), (1, 0, 0)), (True, (1, 0, 0))]
        for word, many, leading in (("line", 3, 2), ("conic", 6, 3)):
            good = [1] * many
            wrong += [(word, thing) for thing in (None, True, 7, "", "1 1 1", (), [], {}, {1: 1, 2: 2, 3: 3})]
            wrong += [(word, good[:-1]), (word, tuple(good) + (1,)), (word, [good]), (word, [0] * many), (word, [2] * many), (word, [-1] * many)]
            for at in range(many):
                for thing in (None, True, False, "1", (1, 1), [1], ()):
                    wrong.append((word, good[:at] + [thing] + good[at + 1:]))
                negative = [0] * at + [-1] + [1] * (many - at - 1)
                wrong.append((word, negative))
                wrong.append((word, [0] * at + [3] + [6] * (many - at - 1)))
                if at >= leading:
                    wrong.append((word, [0] * at + [1] * (many - at)))
            wrong.append((word, [0] * (many - 1) + [1]))
        wrong += [("line", (1, 0, 0, 0, 0, 0)), ("conic", (1, 0, 0)), ("conic", (0, 0, 0, 1, 2, 3)), ("conic", (6, 10, 0, 0, 0, -4))]
        for thing in NO_FRACTIONS + (1, 0):
            wrong += [("point", (thing, (1, 1))), ("point", ((1, 1), thing)), ("point", [thing, thing])]
        wrong += [("point", thing) for thing in (None, True, 0, "", (), [], ((1, 1),), ((1, 1), (1, 1), (1, 1)), (1, 1))]
        for curve in wrong:
            handed = copy.deepcopy(curve)
            for place in (((1, 1), (1, 1)), None, ((2, 4), (1, 1))):
                with self.assertRaises(BadValue, msg=repr(curve)) as caught:
                    on_curve(curve, place)
                self.assertEqual(caught.exception.at, 0, repr(curve))
            self.assertEqual(curve, handed)

    def test_no_places(self):
        wrong = [None, True, 0, "", (), [], ((1, 1),), ((1, 1), (1, 1), (1, 1)), (1, 1), "11", {}, {(1, 1): 1, (2, 1): 1}]
        for thing in NO_FRACTIONS + (1, 0):
            wrong += [(thing, (1, 1)), ((1, 1), thing), [thing, thing]]
        for curve in (("point", ((1, 1), (1, 1))), ("line", (1, 0, 0)), ["conic", [1, 0, 1, 0, 0, -1]]):
            for place in wrong:
                handed = copy.deepcopy(place)
                with self.assertRaises(BadValue, msg=repr(place)) as caught:
                    on_curve(curve, place)
                self.assertEqual((caught.exception.at, place), (1, handed))

    def test_good_ones(self):
        # Just within what is let.
        for curve in (
            ("line", (0, 1, -7)), ("line", (5, 0, 3)), ("line", (2, 4, 3)), ("conic", (0, 0, 1, 0, 0, 0)), ("conic", (0, 2, -6, 9, 0, 0)),
            ("conic", (1, 0, 0, 0, 0, 0)), ("line", (10 ** 30, 10 ** 30 - 1, 0)), ("point", ((0, 1), (10 ** 30, 7))),
        ):
            self.assertIn(on_curve(curve, ((10 ** 30, 1), (-1, 10 ** 30))), (True, False))


class LinearTest(unittest.TestCase):
    def test_lowered(self):
        self.assertEqual(lowered([0, -4, 6]), [0, 2, -3])
        self.assertEqual(lowered((9, -4)), [9, -4])
        self.assertEqual(lowered([0, 0]), [0, 0])
        self.assertEqual(lowered([0, -7]), [0, 1])

    def test_against_fractions(self):
        source = plain.source(212)
        seen = set()
        for _ in range(300):
            width = source.choice((2, 3, 6))
            base = [[source.randint(-5, 5) for _ in range(width)] for _ in range(source.randint(1, width))]
            drawn = [[sum(source.randint(-3, 3) * k for k in column) for column in zip(*base)] for _ in range(source.randint(1, 9))]
            rows = Rows(width)
            for row in base + drawn:
                rows.add(row)
            self.assertEqual(rows.rank(), len(rank_rows(base + drawn)))
            if rows.rank() == width - 1:
                self.assertEqual(tuple(rows.relation()), equation(base + drawn))
            seen.add(width - rows.rank())
        self.assertTrue({0, 1, 2} <= seen)


if __name__ == "__main__":
    unittest.main()
