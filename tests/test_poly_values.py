import copy
import unittest
from fractions import Fraction

from figurehold.errors import NothingThere, TooMany
from figurehold.polys import added, constant, less, multiplied, power, put_in, value, variable
from tests import plain

X = variable("x_a")
Y = variable("y_a")
Z = variable("z_a")
ONE = constant(1)


class PutInTest(unittest.TestCase):
    def too_many(self, word, p, pairs):
        with self.assertRaises(TooMany) as caught:
            put_in(p, pairs)
        self.assertEqual(caught.exception.word, word)

    def test_against_plain_reckoning(self):
        source = plain.source(21)
        for _ in range(150):
            p = plain.some_poly(source, source.randint(0, 7))
            names = source.sample(plain.VARIABLES + ("x_z",), source.randint(0, 5))
            pairs = tuple((name, plain.some_poly(source, source.randint(0, 3), 2)) for name in names)
            expected = plain.put_in(p, pairs)
            for told in (pairs, list(pairs), plain.as_lists(pairs)):
                before = copy.deepcopy(told)
                found = put_in(p, told)
                self.assertEqual(found, expected)
                self.assertTrue(plain.is_tuples(found))
                self.assertEqual(told, before)
            self.assertEqual(put_in(plain.as_lists(p), pairs), expected)

    def test_all_at_once(self):
        p = added(multiplied(X, X), multiplied(constant(3), Y))
        exchanged = added(multiplied(Y, Y), multiplied(constant(3), X))
        self.assertEqual(put_in(p, (("x_a", Y), ("y_a", X))), exchanged)
        self.assertEqual(put_in(p=p, pairs=[["y_a", X], ["x_a", Y]]), exchanged)

    def test_replaced_variable_within_what_replaces_it(self):
        raised = power(added(X, ONE), 3)
        self.assertEqual(put_in(power(X, 3), (("x_a", added(X, ONE)),)), raised)
        self.assertEqual(put_in(raised, (("x_a", less(X, ONE)),)), power(X, 3))

    def test_what_is_not_there(self):
        p = added(X, Y)
        self.assertEqual(put_in(p, ()), p)
        self.assertEqual(put_in(p, (("z_a", X), ("x_b", constant(7)))), p)
        self.assertEqual(put_in((), (("x_a", Y),)), ())
        self.assertEqual(put_in(constant(5), (("x_a", Y),)), constant(5))

    def test_nothing_put_in(self):
        p = added(multiplied(X, Y), added(Y, constant(2)))
        self.assertEqual(put_in(p, (("x_a", ()),)), added(Y, constant(2)))
        self.assertEqual(put_in(p, (("x_a", ()), ("y_a", ()))), constant(2))

    def test_terms_by_the_result(self):
        full = plain.many_terms(2000)
        self.assertEqual(put_in(X, (("x_a", full),)), full)
        self.too_many("terms", added(X, Y), (("x_a", full),))
        self.assertEqual(len(put_in(added(X, Y), (("x_a", plain.many_terms(1999)),))), 2000)
        grown = put_in(less(power(X, 2), power(Y, 2)), (("x_a", plain.many_terms(63)), ("y_a", plain.many_terms(63))))
        self.assertEqual(grown, ())
        self.too_many("terms", power(X, 2), (("x_a", plain.many_terms(63)),))
        self.assertEqual(len(put_in(power(X, 2), (("x_a", plain.many_terms(62)),))), 1953)

    def test_figures_by_the_result(self):
        most = constant(10 ** 200 - 1)
        self.assertEqual(put_in(X, (("x_a", most),)), most)
        self.too_many("figures", added(X, ONE), (("x_a", most),))
        self.assertEqual(put_in(less(power(X, 3), power(Y, 3)), (("x_a", most), ("y_a", most))), ())
        self.too_many("figures", multiplied(X, X), (("x_a", constant(10 ** 100)),))
        full = plain.many_terms(2000)
        self.too_many("terms", added(added(X, Y), Z), (("x_a", full), ("y_a", most)))

    def test_many_terms_with_high_exponents(self):
        # The plain way would go over hundreds of thousands of products for each term.
        inner = power(added(added(X, Y), ONE), 40)
        pairs = (("x_a", added(added(X, Y), ONE)), ("y_a", less(constant(-2), Y)))
        self.assertEqual(put_in(inner, pairs), power(X, 40))

    def test_many_variables(self):
        pairs = [(f"x_{name}", variable(f"y_{name}")) for name in plain.many_names(2000)]
        self.assertEqual(put_in(plain.many_terms(2000), pairs), plain.many_terms(2000, "y"))


class ValueTest(unittest.TestCase):
    def expected(self, p, pairs):
        known = {name: Fraction(n, d) for name, (n, d) in pairs}
        total = Fraction(0)
        for monomial, many in p:
            term = Fraction(many)
            for name, exponent in monomial:
                term *= known[name] ** exponent
            total += term
        return (total.numerator, total.denominator)

    def some_fraction(self, source):
        made = Fraction(source.randint(-30, 30), source.randint(1, 12))
        return (made.numerator, made.denominator)

    def test_against_fractions(self):
        source = plain.source(22)
        for _ in range(200):
            p = plain.some_poly(source, source.randint(0, 8), 4)
            pairs = [(name, self.some_fraction(source)) for name in plain.VARIABLES]
            source.shuffle(pairs)
            expected = self.expected(p, pairs)
            for told in (tuple(pairs), pairs, plain.as_lists(pairs)):
                before = copy.deepcopy(told)
                found = value(p, told)
                self.assertEqual(found, expected)
                self.assertIsInstance(found, tuple)
                self.assertEqual(told, before)
            self.assertEqual(value(p=plain.as_lists(p), pairs=pairs), expected)

    def test_lowest_terms_and_sign(self):
        self.assertEqual(value((), ()), (0, 1))
        self.assertEqual(value(constant(-4), ()), (-4, 1))
        self.assertEqual(value(multiplied(constant(6), X), (("x_a", (1, 4)),)), (3, 2))
        self.assertEqual(value(X, (("x_a", (-3, 7)),)), (-3, 7))
        self.assertEqual(value(power(X, 3), (("x_a", (-1, 2)),)), (-1, 8))
        self.assertEqual(value(power(X, 2), (("x_a", (-1, 2)),)), (1, 4))
        self.assertEqual(value(less(X, Y), (("x_a", (1, 6)), ("y_a", (1, 6)))), (0, 1))
        self.assertEqual(value(added(X, Y), (("x_a", (1, 6)), ("y_a", (1, 3)))), (1, 2))

    def test_further_pairs_are_let(self):
        self.assertEqual(value(X, (("t_b", (1, 9)), ("x_a", (2, 1)), ("x_ab", (0, 1)))), (2, 1))

    def test_first_lacking_one(self):
        p = added(added(Z, Y), multiplied(variable("X_q"), X))
        for known, lacking in (
            ((), "X_q"),
            ((("X_q", (1, 1)),), "x_a"),
            ((("X_q", (1, 1)), ("z_a", (1, 1)), ("x_a", (0, 1))), "y_a"),
            ((("x_a", (0, 1)), ("y_a", (1, 1)), ("X_q", (1, 1))), "z_a"),
        ):
            with self.assertRaises(NothingThere) as caught:
                value(p, known)
            self.assertEqual(caught.exception.word, lacking)

    def test_first_lacking_one_is_not_the_first_that_stands_there(self):
        p = added(multiplied(X, Z), Y)
        with self.assertRaises(NothingThere) as caught:
            value(p, (("x_a", (1, 1)),))
        self.assertEqual(caught.exception.word, "y_a")

    def test_great_numbers(self):
        pairs = (("x_a", (10 ** 30, 10 ** 30 - 1)), ("y_a", (1 - 10 ** 30, 7)))
        p = added(power(X, 40), added(power(Y, 39), constant(10 ** 200 - 1)))
        self.assertEqual(value(p, pairs), self.expected(p, pairs))


if __name__ == "__main__":
    unittest.main()
