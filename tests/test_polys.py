import copy
import unittest

from figurehold.errors import TooMany
from figurehold.polys import added, constant, degree_in, less, multiplied, power, variable, variables
from tests import plain

X = (((("x_a", 1),), 1),)
Y = (((("y_a", 1),), 1),)
ONE = (((), 1),)


class BasicPolysTest(unittest.TestCase):
    def test_constant(self):
        self.assertEqual(constant(0), ())
        self.assertEqual(constant(1), (((), 1),))
        self.assertEqual(constant(-7), (((), -7),))
        self.assertEqual(constant(k=10 ** 200 - 1), (((), 10 ** 200 - 1),))

    def test_constant_of_too_many_figures(self):
        for k in (10 ** 200, -10 ** 200):
            with self.assertRaises(TooMany) as caught:
                constant(k)
            self.assertEqual(caught.exception.word, "figures")

    def test_variable(self):
        for name in ("x_a", "X_p", "t_abcd", "W_zz"):
            self.assertEqual(variable(name), ((((name, 1),), 1),))
        self.assertEqual(variable(name="y_b"), (((("y_b", 1),), 1),))

    def test_variables_and_degrees(self):
        p = (((), 5), ((("X_p", 2), ("x_a", 1)), -1), ((("x_a", 7), ("x_b", 40)), 3), ((("x_a", 9),), 1))
        p = tuple(sorted(p))
        for told in (p, plain.as_lists(p)):
            self.assertEqual(variables(told), ("X_p", "x_a", "x_b"))
            self.assertEqual(degree_in(told, "x_a"), 9)
            self.assertEqual(degree_in(told, "x_b"), 40)
            self.assertEqual(degree_in(p=told, variable="X_p"), 2)
            self.assertEqual(degree_in(told, "x_p"), 0)
        self.assertEqual(variables(p=()), ())
        self.assertEqual(variables(ONE), ())
        self.assertEqual(degree_in((), "x_a"), 0)


class SumsAndProductsTest(unittest.TestCase):
    def check_same(self, found, expected):
        self.assertEqual(found, expected)
        self.assertTrue(plain.is_tuples(found))

    def test_against_plain_reckoning(self):
        source = plain.source(11)
        for _ in range(150):
            p = plain.some_poly(source, source.randint(0, 8))
            q = plain.some_poly(source, source.randint(0, 8))
            for one, other in ((p, q), (plain.as_lists(p), plain.as_lists(q)), (list(p), q)):
                before = copy.deepcopy((one, other))
                self.check_same(added(one, other), plain.sum_of(p, q))
                self.check_same(less(one, other), plain.sum_of(p, q, -1))
                self.check_same(multiplied(one, other), plain.product(p, q))
                self.assertEqual((one, other), before)

    def test_by_name(self):
        self.assertEqual(added(q=X, p=Y), plain.sum_of(X, Y))
        self.assertEqual(less(q=X, p=Y), plain.sum_of(Y, X, -1))
        self.assertEqual(multiplied(q=X, p=Y), plain.product(X, Y))
        self.assertEqual(power(k=2, p=X), plain.product(X, X))

    def test_terms_that_fall_away(self):
        self.assertEqual(less(X, X), ())
        self.assertEqual(added(X, (((("x_a", 1),), -1),)), ())
        self.assertEqual(
            multiplied(added(X, Y), less(X, Y)), (((("x_a", 2),), 1), ((("y_a", 2),), -1))
        )
        self.assertEqual(multiplied((), X), ())
        self.assertEqual(multiplied(X, ()), ())
        self.assertEqual(added((), ()), ())

    def test_rising_monomials(self):
        p = added(added(Y, constant(3)), added(X, multiplied(X, added(X, Y))))
        self.assertEqual(
            p,
            (
                ((), 3),
                ((("x_a", 1),), 1),
                ((("x_a", 1), ("y_a", 1)), 1),
                ((("x_a", 2),), 1),
                ((("y_a", 1),), 1),
            ),
        )

    def test_exponents_of_results_pass_forty(self):
        high = (((("x_a", 40),), 2),)
        self.assertEqual(multiplied(high, high), (((("x_a", 80),), 4),))
        self.assertEqual(power(high, 40), (((("x_a", 1600),), 2 ** 40),))


class PowerTest(unittest.TestCase):
    def test_against_plain_reckoning(self):
        source = plain.source(12)
        for _ in range(40):
            p = plain.some_poly(source, source.randint(0, 4))
            k = source.randint(0, 5)
            self.assertEqual(power(p, k), plain.power(p, k))
            self.assertEqual(power(plain.as_lists(p), k), plain.power(p, k))

    def test_to_nothing(self):
        self.assertEqual(power((), 0), ONE)
        self.assertEqual(power(X, 0), ONE)
        self.assertEqual(power(plain.many_terms(2000), 0), ONE)

    def test_to_forty(self):
        self.assertEqual(power((), 40), ())
        binomial = power(added(X, ONE), 40)
        self.assertEqual(len(binomial), 41)
        self.assertEqual(dict(binomial)[(("x_a", 20),)], 137846528820)
        self.assertEqual(power(constant(-10), 39), (((), -10 ** 39),))

    def test_one_keeps_it(self):
        p = plain.many_terms(2000)
        self.assertEqual(power(p, 1), p)


class LimitsTest(unittest.TestCase):
    def too_many(self, word, action, *told):
        with self.assertRaises(TooMany) as caught:
            action(*told)
        self.assertEqual(caught.exception.word, word)

    def test_two_thousand_terms_and_one_more(self):
        full = plain.many_terms(2000)
        self.assertEqual(len(added(plain.many_terms(1999), Y)), 2000)
        self.assertEqual(added(full, full)[0][1], 2)
        self.too_many("terms", added, full, Y)
        self.too_many("terms", less, full, Y)
        self.too_many("terms", less, Y, full)
        self.assertEqual(len(multiplied(plain.many_terms(40), plain.many_terms(50, "y"))), 2000)
        self.too_many("terms", multiplied, plain.many_terms(29), plain.many_terms(69, "y"))

    def test_the_result_counts(self):
        # (x - 1) * (1 + x + ..) has two terms, however many fall away on the way.
        grid = {}
        for i in range(41):
            for j in range(41):
                grid[tuple(pair for pair in (("x_a", i), ("y_a", j)) if pair[1])] = 1
        grid = plain.poly(grid)
        self.assertEqual(len(grid), 1681)
        outcome = multiplied(multiplied(grid, less(X, ONE)), less(Y, ONE))
        self.assertEqual(len(outcome), 4)
        self.too_many("terms", multiplied, grid, grid)
        full = added(plain.many_terms(1999), Y)
        self.assertEqual(less(full, full), ())

    def test_a_power_by_its_result(self):
        three = added(added(X, Y), ONE)
        self.assertEqual(len(power(three, 40)), 861)
        four = added(three, variable("z_a"))
        self.assertEqual(len(power(four, 20)), 1771)
        self.too_many("terms", power, four, 21)

    def test_two_hundred_figures_and_one_more(self):
        most = 10 ** 200 - 1
        near = (((("x_a", 1),), most - 1),)
        self.assertEqual(added(near, X), (((("x_a", 1),), most),))
        self.too_many("figures", added, added(near, X), X)
        self.assertEqual(less((((("x_a", 1),), 1 - most),), X), (((("x_a", 1),), -most),))
        self.too_many("figures", less, (((("x_a", 1),), -most),), X)
        tenth = constant(10 ** 100)
        self.assertEqual(multiplied(tenth, constant(10 ** 99)), (((), 10 ** 199),))
        self.too_many("figures", multiplied, tenth, tenth)
        self.assertEqual(power(constant(99999), 40), (((), 99999 ** 40),))
        self.too_many("figures", power, constant(10 ** 5), 40)

    def test_figures_by_the_result(self):
        great = 10 ** 199
        p = plain.poly({(): great, (("x_a", 1),): great})
        q = plain.poly({(): 6, (("x_a", 1),): -6})
        self.assertEqual(multiplied(p, q), (((), 6 * great), ((("x_a", 2),), -6 * great)))
        wide = plain.poly({(): 9 * great, (("x_a", 1),): 9 * great})
        even = plain.poly({(): 1, (("x_a", 1),): -1})
        self.assertEqual(len(multiplied(wide, even)), 2)

    def test_terms_ahead_of_figures(self):
        great = constant(10 ** 199)
        full = tuple((monomial, 10 ** 199) for monomial, _ in plain.many_terms(1001))
        self.too_many("terms", multiplied, full, added(Y, constant(10)))
        self.too_many("figures", multiplied, full, constant(10))
        self.too_many("terms", multiplied, added(plain.many_terms(1999), great), added(Y, constant(10)))
        nines = tuple((monomial, 10 ** 200 - 1) for monomial, _ in plain.many_terms(2000))
        both = added(((nines[0][0], 1),), Y)
        self.too_many("terms", added, nines, both)
        self.too_many("terms", less, nines, less((), both))
        self.too_many("figures", added, nines, nines)
        four = added(added(X, Y), added(variable("z_a"), constant(10 ** 10)))
        self.too_many("terms", power, four, 21)
        self.too_many("figures", power, four, 20)

    def test_two_thousand_terms_times_two_thousand(self):
        self.too_many("terms", multiplied, plain.many_terms(2000), plain.many_terms(2000, "y"))
        self.too_many("terms", multiplied, plain.many_terms(2000), plain.many_terms(2000))


if __name__ == "__main__":
    unittest.main()
