"""The triples of [8], as far as constructions need them: that they are the points, and their letters."""

import unittest
from fractions import Fraction

from figurehold.constructions import RADIX, built
from figurehold.errors import Impossible
from figurehold.fields import Fields
from figurehold.making import crossed, made
from figurehold.polys import poly_text
from figurehold.steps import FORMS, elders, new_unknowns
from tests import geometry, plain


def triple_of(construction, point):
    """The triple that a construction keeps, as polynomials."""
    fields = Fields(construction.unknowns(), RADIX)
    return tuple(fields.told(table) for table in construction._triples[point])


def number(p, known):
    total = 0
    for monomial, many in p:
        for name, exponent in monomial:
            many = many * known[name] ** exponent
        total = total + many
    return total


def texts_of(*steps):
    return tuple(poly_text(p) for p in triple_of(built(steps), steps[-1][1]))


def some_step(source, name, points):
    word = source.choice(sorted(FORMS))
    members = [
        source.choice(points) if form == "p" else source.randint(-4, 4) if form == "n" else source.randint(1, 4)
        for form in FORMS[word]
    ]
    return (word, name, *members)


class MakingTest(unittest.TestCase):
    def check_figure(self, steps, known):
        """The triples' values are the places, or some W has the value 0 where a point cannot be made."""
        construction = built(steps)
        found = {}
        for step in steps:
            X, Y, W = [number(p, known) for p in triple_of(construction, step[1])]
            try:
                found[step[1]] = geometry.place(step, found, known)
            except geometry.NoPoint:
                self.assertEqual(W, 0, (steps, known))
                return
            self.assertNotEqual(W, 0, (steps, known))
            self.assertEqual(found[step[1]], (Fraction(X) / W, Fraction(Y) / W), (steps, known))

    def test_each_kind_against_geometry(self):
        source = plain.source(41)
        base = (("free", "a"), ("free", "b"), ("slide", "c", "a", "b"), ("turn", "d", "c", "a", "b"))
        base = base + (("foot", "e", "d", "b", "a"),)
        for word in sorted(FORMS):
            if word == "free":
                continue
            for _ in range(12):
                step = some_step(source, "p", "abcde")
                while step[0] != word:
                    step = some_step(source, "p", "abcde")
                try:
                    construction = built(base + (step,))
                except Impossible:
                    continue
                for _ in range(5):
                    known = {name: Fraction(source.randint(-6, 6), source.randint(1, 3)) for name in construction.unknowns()}
                    self.check_figure(base + (step,), known)

    def test_impossible_just_if_no_figure_has_the_point(self):
        source = plain.source(42)
        base = (("free", "a"), ("free", "b"), ("part", "c", "a", "b", 1, 3), ("turn", "d", "a", "a", "b"))
        seen = {True: 0, False: 0}
        for _ in range(400):
            step = some_step(source, "p", "abcd")
            if step[0] in ("free", "slide"):
                continue
            try:
                built(base + (step,))
                impossible = False
            except Impossible as error:
                self.assertEqual(error.name, "p")
                impossible = True
            made_somewhere = False
            for _ in range(4):
                known = {name: source.randint(-1000, 1000) for name in ("x_a", "y_a", "x_b", "y_b")}
                try:
                    geometry.places(base + (step,), known)
                    made_somewhere = True
                except geometry.NoPoint:
                    pass
            self.assertEqual(impossible, not made_somewhere, step)
            seen[impossible] += 1
        self.assertGreater(seen[True], 20)
        self.assertGreater(seen[False], 20)

    def test_letters_of_the_document(self):
        a, b, q = ("free", "a"), ("free", "b"), ("free", "q")
        self.assertEqual(texts_of(a), ("x_a", "y_a", "1"))
        self.assertEqual(
            texts_of(a, b, ("slide", "p", "a", "b")), ("- t_p*x_a + t_p*x_b + x_a", "- t_p*y_a + t_p*y_b + y_a", "1")
        )
        self.assertEqual(texts_of(a, b, ("part", "p", "a", "b", 2, 4)), ("2*x_a + 2*x_b", "2*y_a + 2*y_b", "4"))
        self.assertEqual(
            texts_of(a, b, q, ("shift", "p", "q", "a", "b")), ("- x_a + x_b + x_q", "- y_a + y_b + y_q", "1")
        )
        self.assertEqual(
            texts_of(a, b, q, ("turn", "p", "q", "a", "b")), ("x_q + y_a - y_b", "- x_a + x_b + y_q", "1")
        )
        self.assertEqual(texts_of(a, q, ("over", "p", "q", "a")), ("2*x_a - x_q", "2*y_a - y_q", "1"))
        self.assertEqual(
            texts_of(a, ("part", "m", "a", "a", 0, 3), ("over", "p", "m", "a")), ("3*x_a", "3*y_a", "3")
        )
        square = "- 2*x_a*x_b + x_a^2 + x_b^2 - 2*y_a*y_b + y_a^2 + y_b^2"
        weight = texts_of(a, b, q, ("foot", "p", "q", "a", "b"))[2]
        self.assertEqual(weight, square)

    def test_no_common_divisors_taken_out(self):
        steps = [("free", "a"), ("free", "b"), ("part", "m", "a", "b", 1, 2), ("part", "k", "a", "b", 2, 6)]
        self.assertEqual(texts_of(*steps, ("shift", "p", "m", "m", "k"))[2], "24")
        self.assertEqual(texts_of(*steps, ("over", "p", "m", "k"))[2], "12")
        part = texts_of(*steps, ("part", "p", "k", "m", 0, 5))
        self.assertEqual(part, ("40*x_a + 20*x_b", "40*y_a + 20*y_b", "60"))

    def test_meet_and_centre_by_lines(self):
        # Told by their letters in [8]: lines are crossed twice, the centre's through two turned middles.
        steps = [("free", "a"), ("free", "b"), ("free", "c"), ("part", "m", "a", "b", 1, 2)]
        steps += [("turn", "n", "m", "a", "b"), ("part", "k", "a", "c", 1, 2), ("turn", "l", "k", "a", "c")]
        by_meet = triple_of(built(steps + [("meet", "p", "m", "n", "k", "l")]), "p")
        by_centre = triple_of(built(steps + [("centre", "p", "a", "b", "c")]), "p")
        self.assertEqual(by_meet, by_centre)
        a, b = ({1: 1}, {2: 1}, {3: 1}), ({10: 1}, {20: 1}, {30: 1})
        self.assertEqual(crossed(a, b), ({32: 1, 23: -1}, {13: 1, 31: -1}, {21: 1, 12: -1}))

    def test_mirror_and_second_go_over_the_foot(self):
        steps = [("free", "a"), ("free", "b"), ("free", "q"), ("foot", "f", "q", "a", "b")]
        self.assertEqual(
            triple_of(built(steps + [("over", "p", "q", "f")]), "p"),
            triple_of(built(steps + [("mirror", "p", "q", "a", "b")]), "p"),
        )
        self.assertEqual(
            triple_of(built(steps + [("over", "p", "a", "f")]), "p"),
            triple_of(built(steps + [("second", "p", "a", "b", "q")]), "p"),
        )

    def test_members_of_a_step(self):
        self.assertEqual(elders(("part", "p", "b", "a", -3, 7)), ("b", "a"))
        self.assertEqual(elders(("free", "p")), ())
        self.assertEqual(new_unknowns(("free", "ab")), ("x_ab", "y_ab"))
        self.assertEqual(new_unknowns(("slide", "p", "a", "b")), ("t_p",))
        self.assertEqual(new_unknowns(("over", "p", "a", "b")), ())
        self.assertEqual(made(("free", "p"), {}, {"x_p": {1: 1}, "y_p": {7: 1}}), ({1: 1}, {7: 1}, {0: 1}))


if __name__ == "__main__":
    unittest.main()
