import unittest

from figurehold.fields import Fields
from figurehold.tables import minus, number, plus, raised, scaled, times, times_at_most
from tests import plain


class TablesTest(unittest.TestCase):
    def test_no_noughts_are_kept(self):
        self.assertEqual(number(0), {})
        self.assertEqual(number(-2), {0: -2})
        self.assertEqual(scaled({1: 2}, 0), {})
        self.assertEqual(plus({1: 2, 3: 1}, {1: -2, 4: 5}), {3: 1, 4: 5})
        self.assertEqual(minus({1: 2}, {1: 2, 5: 1}), {5: -1})
        self.assertEqual(times({0: 1, 1: 1}, {0: 1, 1: -1}), {0: 1, 2: -1})
        self.assertEqual(raised({}, 0), {0: 1})
        self.assertEqual(raised({}, 2), {})

    def test_what_is_handed_in_stays(self):
        p, q = {0: 1, 1: 1}, {0: -1, 1: 1}
        for action in (plus, minus, times):
            action(p, q)
        scaled(p, 3)
        raised(p, 3)
        times_at_most(p, q, 1)
        self.assertEqual((p, q), ({0: 1, 1: 1}, {0: -1, 1: 1}))

    def test_times_at_most_is_times_within_the_limit(self):
        source = plain.source(51)
        for _ in range(60):
            p = {source.randint(0, 200): source.choice((-2, -1, 1, 2)) for _ in range(source.randint(0, 150))}
            q = {source.randint(0, 200): source.choice((-2, -1, 1, 2)) for _ in range(source.randint(0, 150))}
            product = times(p, q)
            for most in (0, 10, len(product) - 1, len(product), 1000):
                found = times_at_most(p, q, most)
                if found is None:
                    self.assertGreater(len(product), most)
                else:
                    self.assertEqual(found, product)

    def test_times_at_most_with_terms_that_fall_away_late(self):
        # All but two of some thousand terms fall away, most of them in the last row.
        row = {k: 1 for k in range(5000)}
        self.assertEqual(times_at_most(row, {0: -1, 1: 1}, 2), {0: -1, 5000: 1})
        self.assertEqual(times_at_most({0: -1, 1: 1}, row, 2), {0: -1, 5000: 1})
        wide = {k * 5000: 1 for k in range(300)}
        self.assertIsNone(times_at_most(row, wide, 2000))

    def test_times_at_most_with_rows_that_fall_away_later(self):
        # After half of the rows there are 5,000 terms, in the end 200.
        rows = {k: 1 for k in range(100)}
        rows.update({k + 1000: -1 for k in range(100)})
        outcome = times_at_most(rows, {1000 * k: 1 for k in range(50)}, 200)
        self.assertEqual(outcome, {**{k: 1 for k in range(100)}, **{k + 50000: -1 for k in range(100)}})

    def test_fields(self):
        source = plain.source(52)
        for names in (plain.VARIABLES, plain.VARIABLES[::-1], [f"x_{name}" for name in plain.many_names(300)]):
            fields = Fields(names, 9)
            for _ in range(30):
                p = plain.some_poly(source, 6, 8, names)
                self.assertEqual(fields.told(fields.packed(p)), p)
        self.assertEqual(Fields((), 1).told({0: 4}), (((), 4),))
        self.assertEqual(Fields(("y_a", "x_a"), 5).packed((((("x_a", 3), ("y_a", 2)), 7),)), {17: 7})


if __name__ == "__main__":
    unittest.main()
