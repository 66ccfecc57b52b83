import unittest

from figurehold.errors import BadValue
from figurehold.polys import added, constant, less, poly_text, read_poly
from tests import plain

KNOWN = (
    ((), "0"),
    ((((), 1),), "1"),
    ((((), -1),), "- 1"),
    ((((), 12),), "12"),
    ((((("x_a", 1),), 1),), "x_a"),
    ((((("x_a", 1),), -1),), "- x_a"),
    ((((("x_a", 1),), 30),), "30*x_a"),
    ((((("x_a", 2),), -3),), "- 3*x_a^2"),
    ((((("W_abcd", 40), ("x_a", 1), ("y_a", 3)), 1),), "W_abcd^40*x_a*y_a^3"),
    ((((), -5), ((("x_a", 1),), 1), ((("x_a", 1), ("y_a", 1)), -1), ((("x_a", 2),), 7)), "- 5 + x_a - x_a*y_a + 7*x_a^2"),
    ((((("T_z", 1),), 1), ((("t_z", 1),), 1)), "T_z + t_z"),
)

WRONG = (
    "",
    " ",
    "\n",
    "- 0",
    "00",
    "+ 1",
    "+1",
    "-1",
    "01",
    "- 01",
    "0*x_a",
    "1*x_a",
    "- 1*x_a",
    "02*x_a",
    "x_a^1",
    "x_a^0",
    "x_a^01",
    "x_a^02",
    "x_a^41",
    "x_a^100",
    "x_a^",
    "x_a^-2",
    "x_a^+2",
    "x_a^2^2",
    "x_a^ 2",
    "^2",
    "2^2",
    "x_a*2",
    "2*3",
    "2*3*x_a",
    "2*",
    "*x_a",
    "x_a*",
    "2**x_a",
    "2x_a",
    "x_a*x_a",
    "x_a^2*x_a",
    "y_a*x_a",
    "x_b*x_a",
    "x_a*X_a",
    " x_a",
    "x_a ",
    "x_a\n",
    "\nx_a",
    "x_a + 1",
    "x_a + x_a",
    "x_a - x_a",
    "x_a^2 + x_a",
    "1 + 1",
    "0 + x_a",
    "x_a + 0",
    "1 + x_a + y_a + x_b",
    "1  + x_a",
    "1 +  x_a",
    "1 + x_a ",
    "1 +x_a",
    "1+ x_a",
    "1+x_a",
    "1 + - x_a",
    "1 - - x_a",
    "1 + -x_a",
    "1 x_a",
    "1 * x_a",
    "1 +",
    "1 + ",
    "-",
    "- ",
    "+",
    "+ ",
    "-  1",
    "--1",
    "- - 1",
    "- + 1",
    "1 2 x_a",
    "x",
    "x_",
    "_a",
    "x_A",
    "x_1",
    "1_a",
    "x_abcde",
    "xx_a",
    "x__a",
    "xaa",
    "x-a",
    "x.a",
    "x_a_b",
    "x_a.",
    "x_a + (y_a)",
    "\u00e9_a",
    "x_\u00e9",
    "\u0663",
    "\u00b2",
    "x_a^\u0662",
    "1\u00a0+ x_a",
    "1_000",
    "1e3",
    "1.0",
    "0x1",
    "1\t+ x_a",
    "1" + "0" * 200,
    "- " + "9" * 201 + "*x_a",
    "7" * 5000,
    "x_a^" + "2" * 5000,
    "x" * 100000,
)

NO_STRINGS = (None, True, False, 0, 1, 10 ** 30, (), [], ("0",), ["x_a"], ((((), 1)),), b"0")


class PolyTextsTest(unittest.TestCase):
    def test_known_texts(self):
        for p, text in KNOWN:
            self.assertEqual(poly_text(p), text)
            self.assertEqual(poly_text(p=plain.as_lists(p)), text)
            self.assertEqual(read_poly(text), p)
            self.assertTrue(plain.is_tuples(read_poly(text=text)))

    def test_there_and_back(self):
        source = plain.source(31)
        for _ in range(200):
            p = plain.some_poly(source, source.randint(0, 9), 40, plain.VARIABLES, source.choice((1, 2, 10 ** 30)))
            self.assertEqual(read_poly(poly_text(p)), p)

    def test_wrong_texts(self):
        for text in WRONG:
            with self.assertRaises(BadValue, msg=text[:50]) as caught:
                read_poly(text)
            self.assertEqual(caught.exception.at, 0)

    def test_no_strings(self):
        for thing in NO_STRINGS:
            with self.assertRaises(BadValue) as caught:
                read_poly(thing)
            self.assertEqual(caught.exception.at, 0)

    def test_a_changed_text_is_read_only_if_it_is_a_text_still(self):
        source = plain.source(32)
        for _ in range(3000):
            text = poly_text(plain.some_poly(source, 3, 12))
            at = source.randint(0, len(text))
            changed = text[:at] + source.choice(" +-*^_0123ax") + text[at + source.randint(0, 2):]
            try:
                p = read_poly(changed)
            except BadValue:
                continue
            self.assertEqual(poly_text(p), changed)

    def test_limits(self):
        full = plain.many_terms(2000)
        self.assertEqual(read_poly(poly_text(full)), full)
        self.assertEqual(read_poly(poly_text(less((), full))), less((), full))
        for sign in ("+", "-"):
            with self.assertRaises(BadValue):
                read_poly(poly_text(full) + f" {sign} y_a")
        most = constant(10 ** 200 - 1)
        self.assertEqual(read_poly(poly_text(most)), most)
        high = (((("x_a", 40), ("x_b", 40)), 1),)
        self.assertEqual(read_poly(poly_text(high)), high)
        higher = (((("x_a", 41),), 1),)
        self.assertEqual(poly_text(higher), "x_a^41")
        self.assertEqual(poly_text(added(higher, constant(1))), "1 + x_a^41")
        with self.assertRaises(BadValue):
            read_poly(poly_text(higher))


if __name__ == "__main__":
    unittest.main()
