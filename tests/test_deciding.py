"""[13]: known theorems and what is none, and the first figures that break claims."""

import unittest
from fractions import Fraction
from math import prod
from unittest import mock

from figurehold import vanishing
from figurehold.claims import claim_polys, true_in
from figurehold.constructions import built
from figurehold.deciding import counter, holds
from figurehold.figures import is_figure
from figurehold.making import made
from figurehold.polys import degree_in
from figurehold.relations import said
from figurehold.rings import BASE, PRIME, Degrees, Integers, Residues, Tables
from figurehold.triples import triple
from tests import formulas, geometry, plain
from tests.test_claims import LENGTHS, said_of_places, some_claim
from tests.test_figures import first_by_trying
from tests.test_triples import some_construction


def free(names):
    return tuple(("free", name) for name in names)


def middles(*triples):
    return tuple(("part", name, a, b, 1, 2) for name, a, b in triples)


TRIANGLE = free("abc")
MIDDLES = middles(("ma", "b", "c"), ("mb", "c", "a"), ("mc", "a", "b"))
FEET = (("foot", "fa", "a", "b", "c"), ("foot", "fb", "b", "c", "a"), ("foot", "fc", "c", "a", "b"))
CENTRE = (("centre", "o", "a", "b", "c"),)
HEIGHTS = (("meet", "h", "a", "fa", "b", "fb"),)
# Steps, and claims of which just the first one of each pair holds.
THEOREMS = {
    "middles": (
        TRIANGLE + MIDDLES,
        (("parallel", "ma", "mb", "a", "b"), ("parallel", "ma", "mb", "a", "c")),
        (("one_meet", "a", "ma", "b", "mb", "c", "mc"), ("one_meet", "a", "ma", "b", "mb", "c", "a")),
        (("equal_area", "a", "b", "ma", "a", "ma", "c"), ("equal_area", "a", "b", "ma", "a", "mb", "c")),
        (("equal_length", "ma", "mb", "a", "mc"), ("equal_length", "ma", "mb", "a", "ma")),
    ),
    "centre": (
        TRIANGLE + MIDDLES + CENTRE,
        (("equal_length", "o", "a", "o", "c"), ("equal_length", "o", "a", "o", "mc")),
        (("perpendicular", "o", "ma", "b", "c"), ("perpendicular", "o", "mb", "b", "c")),
    ),
    "heights": (
        TRIANGLE + FEET + HEIGHTS,
        (("one_meet", "a", "fa", "b", "fb", "c", "fc"), ("one_meet", "a", "fa", "b", "fb", "c", "fa")),
        (("perpendicular", "c", "h", "a", "b"), ("perpendicular", "c", "h", "a", "c")),
        (("on_line", "c", "h", "fc"), ("on_line", "c", "h", "fb")),
        (("on_circle", "a", "b", "fa", "fb"), ("on_circle", "a", "b", "fa", "fc")),
        (("on_circle", "a", "h", "fb", "fc"), ("on_circle", "b", "h", "fb", "fc")),
    ),
    "the line of Euler": (
        TRIANGLE + CENTRE + FEET[:2] + HEIGHTS + MIDDLES[:1] + (("part", "g", "a", "ma", 2, 3),),
        (("on_line", "o", "g", "h"), ("on_line", "o", "ma", "h")),
    ),
    "nine points": (
        TRIANGLE + MIDDLES + FEET,
        (("on_circle", "ma", "mb", "mc", "fa"), ("on_circle", "ma", "mb", "a", "fa")),
        (("on_circle", "ma", "fb", "mc", "fa"), ("on_circle", "ma", "fb", "c", "fa")),
        (("on_circle", "fa", "fb", "fc", "mb"), ("on_circle", "fa", "fb", "fc", "b")),
    ),
    "Varignon": (
        free("abcd") + middles(("p", "a", "b"), ("q", "b", "c"), ("r", "c", "d"), ("s", "d", "a"), ("t", "a", "c")),
        (("parallel", "p", "q", "s", "r"), ("parallel", "p", "q", "t", "r")),
        (("equal_length", "p", "s", "q", "r"), ("equal_length", "p", "s", "q", "t")),
    ),
    "Thales": (
        free("ao") + (("over", "b", "a", "o"), ("free", "d"), ("second", "c", "a", "d", "o")),
        (("perpendicular", "c", "a", "c", "b"), ("perpendicular", "c", "a", "c", "o")),
        (("equal_length", "o", "c", "o", "b"), ("equal_length", "o", "c", "o", "d")),
    ),
    "power of a point": (
        free("aop") + (("turn", "d", "p", "a", "o"), ("second", "b", "a", "p", "o")),
        (("equal_length", "o", "a", "o", "b"), ("equal_length", "p", "a", "o", "b")),
        (("on_line", "a", "b", "p"), ("on_line", "a", "b", "d")),
    ),
    "Desargues": (
        free("abco")
        + (("part", "d", "o", "a", 2, 1), ("part", "e", "o", "b", 3, 1), ("part", "f", "o", "c", -1, 1))
        + (("meet", "p", "a", "b", "d", "e"), ("meet", "q", "b", "c", "e", "f"), ("meet", "r", "a", "c", "d", "f")),
        (("on_line", "p", "q", "r"), ("on_line", "p", "q", "a")),
    ),
    "Pappus": (
        free("abde")
        + (("part", "c", "a", "b", 3, 1), ("part", "f", "d", "e", -2, 1))
        + (("meet", "p", "a", "e", "b", "d"), ("meet", "q", "a", "f", "c", "d"), ("meet", "r", "b", "f", "c", "e")),
        (("on_line", "p", "q", "r"), ("on_line", "p", "q", "c")),
    ),
    "squares on two sides": (
        TRIANGLE
        + (("turn", "d", "a", "a", "b"), ("turn", "e", "a", "c", "a"), ("part", "m", "b", "c", 1, 2)),
        (("perpendicular", "d", "e", "a", "m"), ("perpendicular", "d", "c", "a", "m")),
        (("equal_length", "b", "e", "c", "d"), ("equal_length", "b", "e", "c", "m")),
        (("perpendicular", "b", "e", "c", "d"), ("perpendicular", "b", "e", "c", "b")),
    ),
    "mirrored heights": (
        TRIANGLE + FEET[:2] + HEIGHTS + (("mirror", "k", "h", "b", "c"),),
        (("on_circle", "a", "b", "c", "k"), ("on_circle", "a", "b", "c", "h")),
    ),
    "a point of the circle": (
        TRIANGLE + CENTRE + (("slide", "d", "b", "c"), ("second", "p", "a", "d", "o")),
        (("on_circle", "a", "b", "c", "p"), ("on_circle", "a", "b", "o", "p")),
        (("equal_length", "o", "p", "o", "b"), ("equal_length", "o", "p", "o", "d")),
    ),
    "the same point": (
        TRIANGLE + MIDDLES + (("meet", "g", "a", "ma", "b", "mb"), ("part", "k", "c", "mc", 2, 3)),
        (("same", "g", "k"), ("same", "g", "mc")),
        (("on_line", "c", "mc", "g"), ("on_line", "c", "ma", "g")),
    ),
    "three points in one": (
        (("free", "a"), ("slide", "b", "a", "a"), ("turn", "c", "a", "b", "a"), ("free", "d")),
        (("same", "a", "c"), ("same", "a", "d")),
        (("perpendicular", "a", "b", "c", "d"), ("perpendicular", "a", "d", "c", "d")),
    ),
}


def true_by_geometry(construction, claim, known):
    """Whether the claim is true in this figure; None if it is no figure."""
    try:
        found = geometry.places(construction.steps(), known)
    except geometry.NoPoint:
        return None
    return said_of_places(claim[0], [found[point] for point in claim[1:]])


class DecidingTest(unittest.TestCase):
    def check_one_of_both(self, construction, claim):
        """Just one of both is; returns whether it holds."""
        answer = holds(construction, claim)
        found = counter(construction, claim)
        self.assertIs(answer, found is None, (construction.steps(), claim))
        if found is not None:
            self.assertTrue(plain.is_tuples(found))
            self.assertEqual(tuple(name for name, _ in found), construction.unknowns())
            self.assertTrue(all(type(k) is int and k >= 0 for _, k in found))
            self.assertIs(is_figure(construction, found), True)
            self.assertIs(true_in(construction, claim, found), False)
            known = {name: Fraction(k) for name, k in found}
            self.assertIs(true_by_geometry(construction, claim, known), False)
        return answer

    def check_first(self, construction, claim):
        """The counter is the first one, all whole numbers being tried."""
        found = counter(construction, claim)
        expected = first_by_trying(
            construction.unknowns(),
            lambda pairs: true_by_geometry(construction, claim, {name: Fraction(k) for name, k in pairs}) is False,
        )
        self.assertEqual(found, expected, (construction.steps(), claim))

    def test_theorems(self):
        for name, (steps, *pairs) in THEOREMS.items():
            construction = built(steps)
            for true_one, false_one in pairs:
                with self.subTest(name, claim=true_one):
                    self.assertIs(self.check_one_of_both(construction, true_one), True)
                    self.assertIs(self.check_one_of_both(construction, list(true_one)), True)
                with self.subTest(name, claim=false_one):
                    self.assertIs(self.check_one_of_both(construction, false_one), False)

    def test_first_counters_of_what_is_no_theorem(self):
        for name, (steps, *pairs) in THEOREMS.items():
            construction = built(steps)
            for _, claim in pairs:
                greatest = max(k for _, k in counter(construction, claim))
                if (greatest + 1) ** len(construction.unknowns()) <= 800:
                    self.check_first(construction, claim)

    def test_the_document_s_example(self):
        tri = built(TRIANGLE + (("part", "m", "b", "c", 1, 2), ("part", "n", "a", "c", 1, 2)))
        self.assertIs(holds(tri, ("parallel", "m", "n", "a", "b")), True)
        self.assertIsNone(counter(tri, ("parallel", "m", "n", "a", "b")))
        self.assertEqual(
            counter(tri, ("perpendicular", "m", "n", "a", "c")),
            (("x_a", 0), ("y_a", 0), ("x_b", 0), ("y_b", 1), ("x_c", 0), ("y_c", 1)),
        )
        self.assertIs(holds(construction=tri, claim=["same", "m", "n"]), False)
        self.assertEqual(counter(construction=tri, claim=["same", "m", "n"]), counter(tri, ("same", "m", "n")))
        self.assertEqual(tri.steps()[:3], TRIANGLE)

    def test_against_the_polynomials(self):
        source = plain.source(81)
        seen = {True: 0, False: 0}
        for at in range(120):
            construction = some_construction(source, source.randint(3, 8))
            light = [p for p in construction.points() if len(triple(construction, p)[0]) < 7]
            claim = some_claim(source, sorted(LENGTHS)[at % 8], light)
            answer = self.check_one_of_both(construction, claim)
            self.assertIs(answer, not any(formulas.claim_polys(construction.steps(), claim)))
            seen[answer] += 1
        self.assertGreater(min(seen.values()), 20)

    def test_against_drawn_figures(self):
        source = plain.source(82)
        for at in range(200):
            construction = some_construction(source, source.randint(3, 9))
            claim = some_claim(source, sorted(LENGTHS)[at % 8], construction.points())
            found = set()
            for _ in range(3):
                known = {name: Fraction(source.randint(-10 ** 9, 10 ** 9)) for name in construction.unknowns()}
                found.add(true_by_geometry(construction, claim, known))
            self.assertEqual(found - {None}, {self.check_one_of_both(construction, claim)})

    def test_counters_against_trying(self):
        source = plain.source(83)
        seen = 0
        while seen < 60:
            construction = some_construction(source, source.randint(3, 7))
            claim = some_claim(source, sorted(LENGTHS)[seen % 8], construction.points())
            found = counter(construction, claim)
            if found and (max(k for _, k in found) + 1) ** len(found) <= 800:
                self.check_first(construction, claim)
                seen += 1

    def test_counters_that_need_greater_numbers(self):
        # The feet keep t_d from 0, 1 and 2, the claim from one number more.
        steps = free("ab") + (("part", "pc", "a", "b", 2, 1), ("part", "pd", "a", "b", 3, 1))
        steps = steps + (("turn", "c", "a", "a", "b"), ("slide", "d", "a", "b"))
        feet = (("foot", "f", "c", "d", "a"), ("foot", "g", "c", "d", "b"), ("foot", "h", "c", "d", "pc"))
        for many in range(4):
            construction = built(steps + feet[:many])
            claim = ("same", "d", ("a", "b", "pc", "pd")[many])
            self.assertEqual(counter(construction, claim)[-1], ("t_d", many + 1))
            self.check_first(construction, claim)
            other = ("on_line", "c", "d", "a")
            self.check_first(construction, other)

    def test_claims_of_points_ahead_of_others(self):
        # What stands behind the claim's points may be made as well.
        steps = TRIANGLE + (("slide", "d", "a", "b"), ("foot", "f", "c", "d", "a"), ("meet", "e", "c", "f", "a", "d"))
        construction = built(steps)
        for claim in (("on_line", "a", "b", "c"), ("same", "a", "b"), ("same", "c", "f"), ("equal_length", "a", "d", "d", "b")):
            self.assertIs(self.check_one_of_both(construction, claim), False)
            self.check_first(construction, claim)

    def test_large_triples(self):
        steps = TRIANGLE + CENTRE + (("slide", "d", "b", "c"), ("second", "p", "a", "d", "o"), ("over", "q", "p", "o"))
        construction = built(steps + (("foot", "f", "o", "a", "p"), ("part", "m", "a", "p", 1, 2)))
        for claim in (
            ("on_circle", "p", "q", "b", "c"), ("on_circle", "p", "p", "q", "f"), ("perpendicular", "a", "p", "a", "q"),
            ("same", "f", "m"), ("equal_length", "o", "q", "o", "p"), ("one_meet", "a", "p", "o", "f", "p", "m"),
        ):
            self.assertIs(self.check_one_of_both(construction, claim), True, claim)
        for claim in (("same", "p", "a"), ("on_line", "a", "p", "c"), ("equal_length", "a", "o", "a", "p")):
            self.assertIs(self.check_one_of_both(construction, claim), False, claim)


class VanishingTest(unittest.TestCase):
    def test_the_prime(self):
        # By Proth's theorem; the same line makes the powers of BASE come again late.
        self.assertEqual(PRIME, 223 * 2 ** 700 + 1)
        self.assertLess(223, 2 ** 700)
        self.assertEqual(pow(BASE, (PRIME - 1) // 2, PRIME), PRIME - 1)
        self.assertGreater(PRIME, 2000 * 10 ** 200)

    def drawn(self, seed):
        """Some constructions, each with a claim about points of small triples."""
        source = plain.source(seed)
        for at in range(60):
            construction = some_construction(source, source.randint(3, 8))
            light = [p for p in construction.points() if len(triple(construction, p)[0]) < 7]
            yield source, construction, some_claim(source, sorted(LENGTHS)[at % 8], light)

    def reckoned(self, ring, construction, unknowns):
        triples = {}
        for step in construction.steps():
            triples[step[1]] = made(ring, step, triples, unknowns)
        return triples

    def test_rings_agree(self):
        for source, construction, claim in self.drawn(84):
            known = {name: source.randint(-10 ** 30, 10 ** 30) for name in construction.unknowns()}
            found = formulas.triples(construction.steps(), known)
            expected = formulas.said(claim[0], [found[point] for point in claim[1:]])
            integers = self.reckoned(Integers(), construction, known)
            residues = self.reckoned(Residues(), construction, known)
            self.assertEqual(integers, found)
            self.assertEqual(said(Integers(), claim, integers), tuple(expected))
            told = said(Residues(), claim, residues)
            self.assertEqual([k % PRIME for k in told], [k % PRIME for k in expected])

    def test_degrees_are_bounds(self):
        for _, construction, claim in self.drawn(85):
            for name in construction.unknowns():
                bounds = {other: int(other == name) for other in construction.unknowns()}
                triples = self.reckoned(Degrees(), construction, bounds)
                for point in construction.points():
                    for p, bound in zip(triple(construction, point), triples[point]):
                        self.assertLessEqual(degree_in(p, name), bound)
                for p, bound in zip(claim_polys(construction, claim), said(Degrees(), claim, triples)):
                    self.assertLessEqual(degree_in(p, name), bound)

    def looked_at(self, construction, claim):
        """The numbers for the unknowns of which vanishes makes use, one look after the other."""
        looks = []
        kept = vanishing._reckoned

        def reckoned(ring, lots, unknowns):
            if isinstance(ring, Residues):
                looks.append(dict(unknowns))
            return kept(ring, lots, unknowns)

        with mock.patch.object(vanishing, "_reckoned", reckoned):
            answer = vanishing.vanishes(construction, claim)
        return answer, looks

    def test_enough_points_are_looked_at(self):
        steps = free("zab") + (("slide", "e", "a", "b"), ("turn", "c", "e", "a", "b"), ("foot", "f", "c", "a", "b"))
        steps = steps + (("slide", "l", "c", "f"), ("over", "k", "c", "f"))
        construction = built(steps)
        for claim in (
            ("on_line", "l", "c", "f"), ("perpendicular", "c", "l", "a", "b"), ("equal_length", "l", "a", "l", "a"),
            ("on_circle", "a", "l", "f", "a"), ("same", "f", "f"), ("on_line", "a", "b", "f"),
        ):
            names = ("t_e",) + (("t_l",) if "l" in claim else ())
            triples = {
                name: self.reckoned(Degrees(), construction, {other: int(other == name) for other in construction.unknowns()})
                for name in names
            }
            degrees = [max(said(Degrees(), claim, triples[name])) for name in names]
            answer, looks = self.looked_at(construction, claim)
            self.assertIs(answer, True)
            self.assertEqual(len(looks), min(2000, prod(degree + 1 for degree in degrees)))
            for at, look in enumerate(looks):
                # The first free point that the claim needs is (0, 0), the second one (1, 0).
                self.assertEqual([look[name] for name in ("x_a", "y_a", "x_b", "y_b")], [0, 0, 1, 0])
                self.assertEqual(set(look) - {"x_a", "y_a", "x_b", "y_b"}, set(names))
                for k, name in enumerate(names):
                    exponent = prod(degree + 1 for degree in degrees[:k]) * (at + 1)
                    self.assertEqual(look[name], pow(BASE, exponent, PRIME))

    def test_both_polynomials_count(self):
        # k is c; the polynomials of x have the degree 1 in x_c and 0 in y_c, those of y likewise.
        steps = TRIANGLE + (("shift", "d", "c", "a", "b"), ("shift", "k", "d", "b", "a"))
        answer, looks = self.looked_at(built(steps), ("same", "c", "k"))
        self.assertEqual((answer, len(looks)), (True, 4))

    def test_no_more_points_than_terms_are_looked_at(self):
        steps = TRIANGLE + CENTRE + (("slide", "d", "b", "c"), ("second", "p", "a", "d", "o"))
        answer, looks = self.looked_at(built(steps), ("on_circle", "p", "p", "c", "p"))
        self.assertEqual((answer, len(looks)), (True, 2000))
        answer, looks = self.looked_at(built(steps), ("on_circle", "a", "b", "o", "p"))
        self.assertEqual((answer, len(looks)), (False, 1))

    def test_tables_are_a_ring_like_the_others(self):
        ring = Tables()
        p, q = {0: 1, 1: 2}, {0: -1, 1: 1}
        self.assertEqual(ring.plus(p, q), {1: 3})
        self.assertEqual(ring.minus(p, q), {0: 2, 1: 1})
        self.assertEqual(ring.times(p, q), {0: -1, 1: -1, 2: 2})
        self.assertEqual((ring.scaled(p, -3), ring.scaled(p, 0)), ({0: -3, 1: -6}, {}))
        self.assertEqual((ring.number(0), ring.number(7)), ({}, {0: 7}))


if __name__ == "__main__":
    unittest.main()
