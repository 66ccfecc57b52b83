"""[12]: what claims are, their polynomials to the letter, and whether they are true in a figure."""

import copy
import unittest
from fractions import Fraction

from figurehold.claims import claim_polys, true_in
from figurehold.constructions import Construction, built
from figurehold.deciding import counter, holds
from figurehold.errors import BadClaim, BadValue, Broken
from figurehold.figures import first_figure, is_figure, places
from figurehold.polys import poly_text, value
from figurehold.relations import POINTS
from tests import formulas, geometry, plain
from tests.test_constructions import NO_POINTS, NO_SEQUENCES, NO_WORDS
from tests.test_figures import NO_FRACTIONS, some_values
from tests.test_triples import some_construction

LENGTHS = {
    "same": 2, "on_line": 3, "parallel": 4, "perpendicular": 4, "equal_length": 4, "equal_area": 6, "on_circle": 4,
    "one_meet": 6,
}
BASE = (("free", "a"), ("free", "b"), ("free", "c"), ("part", "m", "a", "b", 1, 2))


def some_claim(source, word, points):
    return (word, *[source.choice(points) for _ in range(LENGTHS[word])])


def small_points(construction, most=8):
    return [point for point in construction.points() if len(claim_polys(construction, ("same", point, "a"))[0]) < most]


def said_of_places(word, p):
    """Whether a claim is true of these places, by plain geometry."""
    minus, cross, dot = geometry.minus, geometry.cross, geometry.dot
    if word == "same":
        return p[0] == p[1]
    if word == "on_line":
        return cross(minus(p[1], p[0]), minus(p[2], p[0])) == 0
    if word == "equal_area":
        return cross(minus(p[1], p[0]), minus(p[2], p[0])) == cross(minus(p[4], p[3]), minus(p[5], p[3]))
    if word == "one_meet":
        lines = []
        for a, b in ((p[0], p[1]), (p[2], p[3]), (p[4], p[5])):
            lines.append((a[1] - b[1], b[0] - a[0], cross(a, b)))
        return formulas.determinant(lines) == 0
    if word == "on_circle":
        rows = [(*minus(q, p[0]), dot(minus(q, p[0]), minus(q, p[0]))) for q in p[1:]]
        return formulas.determinant(rows) == 0
    u, v = minus(p[1], p[0]), minus(p[3], p[2])
    return {"parallel": cross(u, v), "perpendicular": dot(u, v), "equal_length": dot(u, u) - dot(v, v)}[word] == 0


class ClaimPolysTest(unittest.TestCase):
    def check_letters(self, construction, claim):
        found = claim_polys(construction, claim)
        self.assertEqual(found, formulas.claim_polys(construction.steps(), claim), (construction.steps(), claim))
        self.assertTrue(plain.is_tuples(found))
        self.assertEqual(len(found), 2 if claim[0] == "same" else 1)
        self.assertIs(holds(construction, claim), found == ((),) * len(found))

    def test_words(self):
        self.assertEqual(POINTS, LENGTHS)

    def test_letters_of_free_points(self):
        construction = built([("free", name) for name in "abcd"])
        for word in LENGTHS:
            points = "abcdab"[:LENGTHS[word]]
            self.check_letters(construction, (word, *points))
            self.check_letters(construction, (word, *points[::-1]))
            self.check_letters(construction, (word, *("dacbcb"[:LENGTHS[word]])))

    def test_a_few_texts(self):
        construction = built(BASE + (("part", "k", "a", "b", -1, 3),))

        def texts(*claim):
            return tuple(poly_text(p) for p in claim_polys(construction, claim))

        self.assertEqual(texts("same", "a", "b"), ("x_a - x_b", "y_a - y_b"))
        self.assertEqual(texts("same", "m", "a"), ("- x_a + x_b", "- y_a + y_b"))
        self.assertEqual(texts("same", "m", "k"), ("- 5*x_a + 5*x_b", "- 5*y_a + 5*y_b"))
        self.assertEqual(
            texts("on_line", "a", "b", "c"), ("x_a*y_b - x_a*y_c - x_b*y_a + x_b*y_c + x_c*y_a - x_c*y_b",)
        )
        self.assertEqual(texts("on_line", "a", "b", "m"), ("0",))
        self.assertEqual(texts("parallel", "a", "b", "a", "c"), texts("on_line", "a", "b", "c"))
        self.assertEqual(
            texts("perpendicular", "a", "b", "b", "a"),
            ("2*x_a*x_b - x_a^2 - x_b^2 + 2*y_a*y_b - y_a^2 - y_b^2",),
        )
        self.assertEqual(
            texts("equal_length", "a", "m", "b", "b"),
            ("- 2*x_a*x_b + x_a^2 + x_b^2 - 2*y_a*y_b + y_a^2 + y_b^2",),
        )

    def test_against_the_formulas(self):
        source = plain.source(71)
        for word in sorted(LENGTHS):
            for _ in range(8):
                construction = some_construction(source, source.randint(3, 7))
                points = small_points(construction, 6 if word in ("on_circle", "one_meet", "equal_area") else 10)
                self.check_letters(construction, some_claim(source, word, points))

    def test_points_alike(self):
        source = plain.source(72)
        construction = built(BASE + (("foot", "f", "c", "a", "b"), ("turn", "d", "m", "a", "c")))
        for word in sorted(LENGTHS):
            light = word in ("same", "on_line", "parallel", "perpendicular")
            for points in ("a", "m", "am", "dm", "bc") + (("f", "af", "fc") if light else ()):
                for _ in range(3):
                    self.check_letters(construction, some_claim(source, word, points))

    def test_values_of_the_polynomials(self):
        # Larger ones, against the formulas in numbers.
        source = plain.source(73)
        steps = BASE + (("foot", "f", "c", "a", "b"), ("centre", "o", "a", "b", "c"), ("second", "s", "a", "f", "c"))
        construction = built(steps + (("turn", "d", "f", "m", "c"), ("slide", "l", "o", "m")))
        for word in sorted(LENGTHS):
            points = "abcf" if word in ("on_circle", "one_meet", "equal_area") else "abcfodl"
            for _ in range(4):
                claim = some_claim(source, word, points)
                polys = claim_polys(construction, claim)
                for _ in range(3):
                    known = {name: source.randint(-50, 50) for name in construction.unknowns()}
                    found = formulas.triples(construction.steps(), known)
                    expected = formulas.said(word, [found[point] for point in claim[1:]])
                    pairs = [(name, (k, 1)) for name, k in known.items()]
                    self.assertEqual([value(p, pairs) for p in polys], [(k, 1) for k in expected], claim)

    def test_large_ones_that_fall_away(self):
        steps = BASE[:3] + (("centre", "o", "a", "b", "c"), ("slide", "l", "b", "c"), ("second", "s", "a", "l", "o"))
        construction = built(steps)
        self.assertEqual(claim_polys(construction, ("on_circle", "a", "b", "c", "s")), ((),))
        self.assertEqual(claim_polys(construction, ("equal_length", "o", "s", "o", "c")), ((),))
        self.assertEqual(claim_polys(construction, ("same", "s", "s")), ((), ()))

    def test_arguments(self):
        construction = built(BASE)
        claim = ["on_line", "a", "b", "c"]
        handed = list(claim)
        found = claim_polys(construction, claim)
        self.assertEqual(found, claim_polys(construction=construction, claim=tuple(claim)))
        self.assertEqual(claim, handed)
        self.assertEqual(construction, built(BASE))


class BadClaimTest(unittest.TestCase):
    def actions(self, construction):
        values = first_figure(construction)
        return (
            lambda claim: claim_polys(construction, claim),
            lambda claim: true_in(construction, claim, values),
            lambda claim: holds(construction, claim),
            lambda claim: counter(construction, claim),
        )

    def check_bad(self, claim, at, construction=None):
        construction = construction or built(BASE)
        handed = copy.deepcopy(claim)
        for action in self.actions(construction):
            with self.assertRaises(BadClaim, msg=repr(claim)) as caught:
                action(claim)
            self.assertEqual(caught.exception.at, at, claim)
        self.assertEqual(claim, handed)

    def good(self):
        return [(word, *("abcmab"[:many])) for word, many in sorted(LENGTHS.items())]

    def test_no_sequence(self):
        for thing in NO_SEQUENCES + ("same", "same a b", {}, {"same": 1}):
            self.check_bad(thing, 0)

    def test_another_word(self):
        for claim in self.good():
            for word in NO_WORDS + ("free", "apart", "same ", "Same", "on line", "concyclic", ("same",), ["on_line"]):
                self.check_bad((word,) + claim[1:], 0)
                self.check_bad([word, *claim[1:]], 0)
            self.check_bad(claim[1:], 0)
            self.check_bad((claim,), 0)

    def test_another_length(self):
        self.check_bad((), 0)
        self.check_bad([], 0)
        for claim in self.good():
            for length in range(1, len(claim)):
                self.check_bad(claim[:length], 0)
                self.check_bad(list(claim[:length]), 0)
            for member in ("a", "q", None, 1):
                self.check_bad(claim + (member,), 0)
                self.check_bad((claim[0], None) + claim[2:] + (member,), 0)

    def test_members_that_are_no_points(self):
        for claim in self.good():
            for at in range(1, len(claim)):
                for name in NO_POINTS:
                    self.check_bad(claim[:at] + (name,) + claim[at + 1:], at)

    def test_the_first_of_two(self):
        for claim in self.good():
            for at in range(1, len(claim)):
                for other in range(at + 1, len(claim)):
                    wrong = list(claim)
                    wrong[at], wrong[other] = "q", None
                    self.check_bad(wrong, at)
                    wrong[at], wrong[other] = [], "q"
                    self.check_bad(tuple(wrong), at)

    def test_without_points(self):
        for claim in self.good():
            self.check_bad(claim, 1, Construction())


class TrueInTest(unittest.TestCase):
    def test_against_geometry(self):
        source = plain.source(74)
        seen = {}
        for at in range(120):
            construction = some_construction(source, source.randint(3, 7))
            values = some_values(source, construction, (1, 2, 6)[at % 3])
            if not is_figure(construction, values):
                continue
            found = {point: (Fraction(*x), Fraction(*y)) for point, (x, y) in places(construction, values)}
            for word in LENGTHS:
                for _ in range(6):
                    claim = some_claim(source, word, construction.points())
                    expected = said_of_places(word, [found[point] for point in claim[1:]])
                    for told in (claim, list(claim)):
                        self.assertIs(true_in(construction, told, values), expected, (construction.steps(), claim, values))
                    seen[word, expected] = seen.get((word, expected), 0) + 1
        self.assertEqual(len(seen), 16)
        self.assertGreater(min(seen.values()), 10)

    def test_true_is_that_all_polynomials_are_nought(self):
        source = plain.source(75)
        construction = built(BASE + (("foot", "f", "c", "a", "b"), ("turn", "d", "m", "a", "c")))
        for word in LENGTHS:
            for _ in range(15):
                claim = some_claim(source, word, construction.points()[:5])
                values = some_values(source, construction, 1)
                if is_figure(construction, values):
                    pairs = [(name, worth if isinstance(worth, tuple) else (worth, 1)) for name, worth in values]
                    numbers = [value(p, pairs) for p in claim_polys(construction, claim)]
                    self.assertIs(true_in(construction, claim, values), all(n == (0, 1) for n in numbers))

    def test_just_one_of_two_polynomials(self):
        construction = built(BASE)
        values = [("x_a", 1), ("y_a", 2), ("x_b", 1), ("y_b", 3), ("x_c", (1, 1)), ("y_c", (4, 2)[:1] + (1,))]
        self.assertIs(true_in(construction, ("same", "a", "b"), values), False)
        self.assertIs(true_in(construction, ("on_line", "a", "b", "c"), values), True)
        values[3] = ("y_b", 2)
        self.assertIs(true_in(construction, ("same", "a", "b"), values), True)

    def test_four_points_of_one_line_are_on_a_circle(self):
        construction = built(BASE + (("slide", "l", "a", "b"),))
        values = [("x_a", 0), ("y_a", 0), ("x_b", 3), ("y_b", 1), ("x_c", 5), ("y_c", 5), ("t_l", (1, 5))]
        self.assertIs(true_in(construction, ("on_circle", "a", "b", "m", "l"), values), True)
        self.assertIs(true_in(construction, ("on_circle", "a", "b", "m", "c"), values), False)
        self.assertIs(true_in(construction, ("on_circle", "a", "c", "c", "b"), values), True)

    def test_lines_in_one_point_or_parallel(self):
        construction = built([("free", name) for name in "abcd"] + [("shift", "e", "c", "a", "b"), ("shift", "f", "d", "a", "b")])
        names = construction.unknowns()
        self.assertIs(true_in(construction, ("one_meet", "a", "b", "c", "e", "f", "d"), tuple(zip(names, range(8)))), True)
        values = tuple(zip(names, (0, 0, 2, 2, 0, 2, 2, 0)))
        self.assertIs(true_in(construction, ("one_meet", "a", "b", "c", "d", "a", "d"), values), False)
        self.assertIs(true_in(construction, ("one_meet", "a", "b", "c", "e", "a", "d"), values), False)

    def test_turned_the_same_way(self):
        construction = built(BASE)
        values = tuple(zip(construction.unknowns(), (0, 0, 1, 0, 0, 1)))
        self.assertIs(true_in(construction, ("equal_area", "a", "b", "c", "c", "a", "b"), values), True)
        self.assertIs(true_in(construction, ("equal_area", "a", "b", "c", "c", "b", "a"), values), False)

    def test_errors_in_sequence(self):
        construction = built(BASE + (("foot", "f", "c", "a", "b"),))
        names = construction.unknowns()
        good = tuple(zip(names, (0, 0, 1, 0, 0, 1)))
        broken = tuple(zip(names, (1, 2, 1, 2, 3, 4)))
        for bad in (None, good[:-1], good + good[:1], good[:-1] + (("y_c", True),), "x"):
            for wrong in (None, ("same", "a", "q"), ("on_line", "a", "b")):
                with self.assertRaises(BadClaim):
                    true_in(construction, wrong, bad)
            with self.assertRaises(BadValue) as caught:
                true_in(construction, ("same", "a", "b"), bad)
            self.assertEqual(caught.exception.at, 2)
        for worth in NO_FRACTIONS:
            with self.assertRaises(BadValue) as caught:
                true_in(construction, ("same", "a", "b"), broken[:-1] + (("y_c", worth),))
            self.assertEqual(caught.exception.at, 2)
        with self.assertRaises(BadClaim) as bad_claim:
            true_in(construction, ("same", "a", 3), broken)
        self.assertEqual(bad_claim.exception.at, 2)
        # Broken also where the claim does not name the point that cannot be made.
        for claim in (("same", "a", "b"), ("on_line", "a", "f", "c")):
            with self.assertRaises(Broken) as caught:
                true_in(construction, claim, broken)
            self.assertEqual(caught.exception.name, "f")
        self.assertIs(true_in(construction=construction, claim=["same", "a", "f"], values=plain.as_lists(good)), True)


if __name__ == "__main__":
    unittest.main()
