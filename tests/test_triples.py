"""[8] and [9]: triples to the letter, that they are the points, and what steps ask for."""

import unittest
from fractions import Fraction

from figurehold.constructions import Construction, built
from figurehold.errors import BadPoint, Impossible
from figurehold.making import crossed, made
from figurehold.polys import poly_text, value
from figurehold.rings import Tables
from figurehold.steps import FORMS, elders, needed, new_unknowns
from figurehold.triples import conditions, triple
from tests import formulas, geometry, plain

# Points whose own third polynomials are 1, an integer and none, and points that are alike.
BASE = (("free", "a"), ("free", "b"), ("part", "c", "a", "b", 1, 2), ("turn", "d", "c", "a", "b"))
BASE = BASE + (("foot", "e", "d", "b", "a"), ("slide", "f", "a", "d"))
NO_POINTS = (None, 0, -3, 10 ** 30, True, False, "", "p", "A", "aa", "x_a", "a ", "a" * 2000)
NO_POINTS = NO_POINTS + ((), [], ("a",), ["a"], ["a", ["b", None]], [[[]]])


def texts_of(*steps):
    return tuple(poly_text(p) for p in triple(built(steps), steps[-1][1]))


def some_step(source, word, name, points):
    members = [
        source.choice(points) if form == "p" else source.randint(-4, 4) if form == "n" else source.randint(1, 4)
        for form in FORMS[word]
    ]
    return (word, name, *members)


def some_construction(source, many, words=tuple(sorted(FORMS))):
    """A construction of so many points out of a random source, with small triples."""
    construction = built(BASE[:2])
    small = ["a", "b"]
    while len(construction.points()) < many:
        name = "abcdefghijkl"[len(construction.points())]
        step = some_step(source, source.choice(words), name, small)
        if len(construction.unknowns()) + len(new_unknowns(step)) > 8:
            continue
        try:
            construction.add(step)
        except Impossible:
            continue
        # The others are named in no further step, so that no triple becomes very large.
        if max(len(p) for p in triple(construction, name)) < 30:
            small.append(name)
    return construction


class TriplesTest(unittest.TestCase):
    def check_letters(self, construction):
        expected = formulas.triples(construction.steps())
        for point in construction.points():
            found = triple(construction, point)
            self.assertEqual(found, tuple(p.terms for p in expected[point]), (construction.steps(), point))
            self.assertTrue(plain.is_tuples(found))

    def check_numbers(self, construction, known):
        """The triples' values are the places, or some W has the value 0 where a point cannot be made."""
        pairs = tuple((name, (known[name].numerator, known[name].denominator)) for name in known)
        found = {}
        for step in construction.steps():
            X, Y, W = [Fraction(*value(p, pairs)) for p in triple(construction, step[1])]
            try:
                found[step[1]] = geometry.place(step, found, known)
            except geometry.NoPoint:
                self.assertEqual(W, 0, (construction.steps(), known))
                return
            self.assertNotEqual(W, 0, (construction.steps(), known))
            self.assertEqual(found[step[1]], (X / W, Y / W), (construction.steps(), known))

    def check_drawn(self, source, construction, many):
        for _ in range(many):
            known = {name: Fraction(source.randint(-6, 6), source.randint(1, 3)) for name in construction.unknowns()}
            self.check_numbers(construction, known)

    def test_each_kind_to_the_letter_and_in_numbers(self):
        source = plain.source(41)
        for word in sorted(FORMS):
            seen = 0
            while seen < 10:
                step = some_step(source, word, "p", "abcdef")
                try:
                    construction = built(BASE + (step,))
                except Impossible:
                    continue
                seen += 1
                self.check_letters(construction)
                self.check_drawn(source, construction, 4)

    def test_elder_points_alike(self):
        base = BASE[:4]
        for step in (
            ("slide", "p", "c", "c"), ("part", "p", "c", "c", 3, 2), ("shift", "p", "c", "c", "c"),
            ("shift", "p", "c", "a", "a"), ("turn", "p", "c", "a", "c"), ("turn", "p", "d", "d", "d"),
            ("over", "p", "c", "c"), ("mirror", "p", "c", "c", "d"), ("foot", "p", "c", "c", "d"),
            ("foot", "p", "d", "c", "d"), ("meet", "p", "c", "d", "c", "a"), ("second", "p", "c", "d", "c"),
        ):
            construction = built(base + (step,))
            self.check_letters(construction)
            self.check_drawn(plain.source(43), construction, 4)

    def test_steps_upon_steps(self):
        source = plain.source(44)
        for _ in range(12):
            construction = some_construction(source, 6)
            self.check_letters(construction)
            self.check_drawn(source, construction, 4)

    def test_impossible_just_if_no_figure_has_the_point(self):
        source = plain.source(42)
        base = (("free", "a"), ("free", "b"), ("part", "c", "a", "b", 1, 3), ("turn", "d", "a", "a", "b"))
        words = sorted(set(FORMS) - {"free", "slide"})
        seen = {True: 0, False: 0}
        for _ in range(350):
            step = some_step(source, source.choice(words), "p", "abcd")
            try:
                built(base + (step,))
                impossible = False
            except Impossible as error:
                self.assertEqual(error.name, "p")
                impossible = True
            made_somewhere = False
            for _ in range(4):
                known = {name: source.randint(-1000, 1000) for name in ("x_a", "y_a", "x_b", "y_b")}
                try:
                    geometry.places(base + (step,), known)
                    made_somewhere = True
                except geometry.NoPoint:
                    pass
            self.assertEqual(impossible, not made_somewhere, step)
            seen[impossible] += 1
        self.assertGreater(seen[True], 20)
        self.assertGreater(seen[False], 20)

    def test_letters_of_the_document(self):
        a, b, q = ("free", "a"), ("free", "b"), ("free", "q")
        self.assertEqual(texts_of(a), ("x_a", "y_a", "1"))
        self.assertEqual(
            texts_of(a, b, ("slide", "p", "a", "b")), ("- t_p*x_a + t_p*x_b + x_a", "- t_p*y_a + t_p*y_b + y_a", "1")
        )
        self.assertEqual(texts_of(a, b, ("part", "p", "a", "b", 2, 4)), ("2*x_a + 2*x_b", "2*y_a + 2*y_b", "4"))
        self.assertEqual(
            texts_of(a, b, q, ("shift", "p", "q", "a", "b")), ("- x_a + x_b + x_q", "- y_a + y_b + y_q", "1")
        )
        self.assertEqual(
            texts_of(a, b, q, ("turn", "p", "q", "a", "b")), ("x_q + y_a - y_b", "- x_a + x_b + y_q", "1")
        )
        self.assertEqual(texts_of(a, q, ("over", "p", "q", "a")), ("2*x_a - x_q", "2*y_a - y_q", "1"))
        self.assertEqual(
            texts_of(a, ("part", "m", "a", "a", 0, 3), ("over", "p", "m", "a")), ("3*x_a", "3*y_a", "3")
        )
        square = "- 2*x_a*x_b + x_a^2 + x_b^2 - 2*y_a*y_b + y_a^2 + y_b^2"
        weight = texts_of(a, b, q, ("foot", "p", "q", "a", "b"))[2]
        self.assertEqual(weight, square)

    def test_no_common_divisors_taken_out(self):
        steps = [("free", "a"), ("free", "b"), ("part", "m", "a", "b", 1, 2), ("part", "k", "a", "b", 2, 6)]
        self.assertEqual(texts_of(*steps, ("shift", "p", "m", "m", "k"))[2], "24")
        self.assertEqual(texts_of(*steps, ("over", "p", "m", "k"))[2], "12")
        part = texts_of(*steps, ("part", "p", "k", "m", 0, 5))
        self.assertEqual(part, ("40*x_a + 20*x_b", "40*y_a + 20*y_b", "60"))

    def test_other_steps_for_the_same_triples(self):
        steps = [("free", "a"), ("free", "b"), ("free", "c"), ("part", "m", "a", "b", 1, 2)]
        steps += [("turn", "n", "m", "a", "b"), ("part", "k", "a", "c", 1, 2), ("turn", "l", "k", "a", "c")]
        steps += [("foot", "f", "c", "a", "b"), ("foot", "g", "c", "a", "b")]
        for one, other in (
            (("meet", "p", "m", "n", "k", "l"), ("centre", "p", "a", "b", "c")),
            (("over", "p", "c", "f"), ("mirror", "p", "c", "a", "b")),
            (("over", "p", "a", "f"), ("second", "p", "a", "b", "c")),
        ):
            self.assertEqual(triple(built(steps + [one]), "p"), triple(built(steps + [other]), "p"))

    def test_bad_points(self):
        construction = built(BASE)
        for thing in NO_POINTS:
            with self.assertRaises(BadPoint, msg=repr(thing)) as caught:
                triple(construction, thing)
            self.assertEqual(caught.exception.name, thing)
            self.assertEqual(type(caught.exception.name), type(thing))
        with self.assertRaises(BadPoint):
            triple(Construction(), "a")

    def test_arguments_and_results(self):
        construction = built(BASE)
        first = triple(construction=construction, point="f")
        self.assertEqual(first, triple(construction, "f"))
        self.assertEqual(construction.steps(), BASE)
        construction.add(("free", "g"))
        self.assertEqual(first, triple(construction, "f"))
        self.assertEqual(triple(construction, "a"), (((((("x_a", 1),), 1),)), (((("y_a", 1),), 1),), (((), 1),)))


class ConditionsTest(unittest.TestCase):
    def test_every_kind_of_step(self):
        base = (("free", "a"), ("free", "b"), ("free", "c"), ("free", "d"))
        for step, condition in (
            (("part", "p", "a", "b", 1, 2), None),
            (("shift", "p", "c", "a", "b"), None),
            (("turn", "p", "c", "a", "b"), None),
            (("over", "p", "c", "a"), None),
            (("foot", "p", "c", "a", "b"), ("apart", "p", "a", "b")),
            (("mirror", "p", "c", "b", "a"), ("apart", "p", "b", "a")),
            (("second", "p", "a", "c", "d"), ("apart", "p", "a", "c")),
            (("meet", "p", "d", "c", "b", "a"), ("crossing", "p", "d", "c", "b", "a")),
            (("centre", "p", "c", "a", "b"), ("corner", "p", "c", "a", "b")),
        ):
            told = conditions(built(base + (step,)))
            self.assertEqual(told, () if condition is None else (condition,))
            self.assertTrue(plain.is_tuples(told))
        self.assertEqual(conditions(built((("free", "a"), ("slide", "p", "a", "a")))), ())
        self.assertEqual(conditions(Construction()), ())

    def test_in_the_sequence_of_steps(self):
        steps = [["free", "z"], ["free", "b"], ["centre", "m", "z", "b", "y"], ["second", "k", "z", "b", "m"]]
        steps[2:2] = [["free", "y"], ["foot", "f", "y", "z", "b"], ["over", "o", "f", "y"]]
        steps += [["mirror", "a", "b", "y", "f"], ["meet", "c", "z", "k", "y", "b"]]
        construction = built(steps)
        self.assertEqual(
            conditions(construction=construction),
            (
                ("apart", "f", "z", "b"),
                ("corner", "m", "z", "b", "y"),
                ("apart", "k", "z", "b"),
                ("apart", "a", "y", "f"),
                ("crossing", "c", "z", "k", "y", "b"),
            ),
        )


class StepPartsTest(unittest.TestCase):
    def test_members_of_a_step(self):
        self.assertEqual(elders(("part", "p", "b", "a", -3, 7)), ("b", "a"))
        self.assertEqual(elders(("free", "p")), ())
        self.assertEqual(new_unknowns(("free", "ab")), ("x_ab", "y_ab"))
        self.assertEqual(new_unknowns(("slide", "p", "a", "b")), ("t_p",))
        self.assertEqual(new_unknowns(("over", "p", "a", "b")), ())

    def test_needed_steps(self):
        self.assertEqual(needed(BASE, ("c",)), BASE[:3])
        self.assertEqual(needed(BASE, ("e",)), BASE[:5])
        self.assertEqual(needed(BASE, ["f", "a"]), BASE[:4] + BASE[5:])
        self.assertEqual(needed(BASE, ("b",)), BASE[1:2])
        self.assertEqual(needed(BASE, ()), ())

    def test_made_of_tables(self):
        a, b = ({1: 1}, {2: 1}, {3: 1}), ({10: 1}, {20: 1}, {30: 1})
        self.assertEqual(crossed(Tables(), a, b), ({32: 1, 23: -1}, {13: 1, 31: -1}, {21: 1, 12: -1}))
        found = made(Tables(), ("free", "p"), {}, {"x_p": {1: 1}, "y_p": {7: 1}})
        self.assertEqual(found, ({1: 1}, {7: 1}, {0: 1}))


if __name__ == "__main__":
    unittest.main()
