"""[17] and [18]: all claims of a kind that hold, and the lots of points that are one point."""

import unittest
from itertools import combinations, permutations

from figurehold.constructions import Construction, built
from figurehold.deciding import holds
from figurehold.errors import BadValue, TooMany
from figurehold.truths import families, truths
from tests import plain
from tests.test_deciding import CENTRE, FEET, MIDDLES, TRIANGLE, free
from tests.test_triples import some_construction

KINDS = ("same", "on_line", "on_circle", "parallel", "perpendicular", "equal_length")
NO_KINDS = (
    None, True, False, 0, 2, 10 ** 30, "", "Same", "same ", " same", "online", "on line", "on_lines", "equal_area", "one_meet",
    "free", "part", "a", "s", "\u00e9", (), [], ("same",), ["same"], ["same", "on_line"], "x" * 3000,
)
CONSTRUCTIONS = (
    TRIANGLE + MIDDLES + (("meet", "g", "a", "ma", "b", "mb"), ("part", "k", "c", "mc", 2, 3)),
    TRIANGLE + CENTRE + MIDDLES,
    TRIANGLE + FEET + (("meet", "h", "a", "fa", "b", "fb"),),
    TRIANGLE + MIDDLES[:2] + FEET,
    free("abcd") + (("part", "p", "a", "b", 1, 2), ("part", "q", "b", "c", 1, 2), ("part", "r", "c", "d", 1, 2), ("part", "s", "d", "a", 1, 2)),
    free("zy") + (("slide", "x", "z", "y"), ("turn", "w", "x", "z", "y"), ("turn", "v", "w", "w", "x"), ("over", "u", "v", "x")),
    free("ao") + (("over", "b", "a", "o"), ("free", "d"), ("second", "c", "a", "d", "o"), ("turn", "e", "o", "o", "a")),
    free("a") + (("slide", "b", "a", "a"), ("over", "c", "b", "a"), ("part", "d", "a", "b", 2, 3), ("turn", "e", "d", "a", "b")),
    (
        ("free", "c"), ("free", "a"), ("part", "b", "a", "c", 0, 1), ("part", "e", "c", "a", 1, 1), ("over", "d", "a", "c"),
        ("over", "ad", "d", "c"), ("part", "f", "c", "d", 1, 1), ("shift", "g", "c", "a", "b"),
    ),
)


def asked(construction, kind):
    """All claims of this kind of [17], in their sequence."""
    points = construction.points()
    if kind in ("same", "on_line", "on_circle"):
        many = {"same": 2, "on_line": 3, "on_circle": 4}[kind]
        return [(kind, *chosen) for chosen in combinations(points, many)]
    place = {point: at for at, point in enumerate(points)}
    pairs = [pair for pair in permutations(points, 2) if place[pair[0]] < place[pair[1]]]
    found = [
        (kind, *one, *other) for one in pairs for other in pairs
        if [place[point] for point in one] < [place[point] for point in other]
    ]
    return sorted(found, key=lambda claim: [place[point] for point in claim[1:]])


def plain_families(construction):
    """By asking for each pair of points."""
    lots = []
    for point in construction.points():
        for lot in lots:
            if holds(construction, ("same", lot[0], point)):
                lot.append(point)
                break
        else:
            lots.append([point])
    return tuple(tuple(lot) for lot in lots)


class TruthsTest(unittest.TestCase):
    def check_all(self, construction):
        """Returns how many claims of each kind hold."""
        kept = construction.steps()
        many = []
        for kind in KINDS:
            found = truths(construction, kind)
            self.assertTrue(plain.is_tuples(found))
            self.assertIs(type(found), tuple)
            self.assertEqual(found, tuple(claim for claim in asked(construction, kind) if holds(construction, claim)), kept)
            many.append(len(found))
        found = families(construction)
        self.assertTrue(plain.is_tuples(found))
        self.assertEqual(found, plain_families(construction))
        self.assertEqual(construction.steps(), kept)
        return many

    def test_how_many_are_asked(self):
        self.assertEqual([len(asked(built(free("abcd")), kind)) for kind in KINDS], [6, 4, 1, 15, 15, 15])

    def test_each_kind(self):
        seen = [0] * len(KINDS)
        for steps in CONSTRUCTIONS:
            seen = [one + other for one, other in zip(seen, self.check_all(built(steps)))]
        self.assertGreater(min(seen), 10)

    def test_drawn_ones(self):
        source = plain.source(171)
        for at in range(40):
            self.check_all(some_construction(source, 3 + at % 5))

    def test_a_small_one_by_hand(self):
        # c is in the middle, d is a turned around b.
        construction = built(free("ba") + (("part", "c", "a", "b", 1, 2), ("over", "d", "a", "b"), ("over", "e", "a", "c")))
        self.assertEqual(truths(construction, "same"), (("same", "b", "e"),))
        self.assertEqual(truths(construction, "on_line")[:4], (
            ("on_line", "b", "a", "c"), ("on_line", "b", "a", "d"), ("on_line", "b", "a", "e"), ("on_line", "b", "c", "d"),
        ))
        self.assertEqual(len(truths(construction, "on_line")), 10)
        self.assertEqual(len(truths(construction, "on_circle")), 5)
        self.assertEqual(len(truths(construction, "parallel")), 45)
        self.assertEqual(truths(construction, "parallel")[:3], (
            ("parallel", "b", "a", "b", "c"), ("parallel", "b", "a", "b", "d"), ("parallel", "b", "a", "b", "e"),
        ))
        # b and e are one point, so that the way between them is perpendicular to all.
        self.assertEqual(truths(construction, "perpendicular"), tuple(
            claim for claim in asked(construction, "perpendicular") if ("b", "e") in (claim[1:3], claim[3:])
        ))
        self.assertEqual(truths(construction, "equal_length"), (
            ("equal_length", "b", "a", "b", "d"), ("equal_length", "b", "a", "a", "e"), ("equal_length", "b", "a", "d", "e"),
            ("equal_length", "b", "c", "a", "c"), ("equal_length", "b", "c", "c", "e"),
            ("equal_length", "b", "d", "a", "e"), ("equal_length", "b", "d", "d", "e"),
            ("equal_length", "a", "c", "c", "e"), ("equal_length", "a", "e", "d", "e"),
        ))
        self.assertEqual(families(construction), (("b", "e"), ("a",), ("c",), ("d",)))

    def test_pairs_with_a_point_in_common(self):
        construction = built(free("ao") + (("turn", "b", "o", "o", "a"),))
        self.assertEqual(truths(construction, "equal_length"), (("equal_length", "a", "o", "o", "b"),))
        self.assertEqual(truths(construction, "perpendicular"), (("perpendicular", "a", "o", "o", "b"),))
        self.assertEqual(truths(construction, "parallel"), ())

    def test_too_few_points(self):
        for many in range(5):
            construction = built(free("abcd"[:many]))
            for kind in KINDS:
                self.assertEqual(truths(construction, kind), ())
            self.assertEqual(families(construction), tuple((point,) for point in "abcd"[:many]))
        point = built(free("a") + (("slide", "b", "a", "a"),))
        self.assertEqual(truths(point, "same"), (("same", "a", "b"),))
        self.assertEqual([truths(point, kind) for kind in KINDS[1:]], [()] * 5)
        self.assertEqual(families(point), (("a", "b"),))
        self.assertEqual((families(Construction()), truths(Construction(), "same")), ((), ()))

    def test_families(self):
        for steps, expected in (
            (CONSTRUCTIONS[-1], (("c", "g"), ("a", "b", "e", "ad"), ("d", "f"))),
            (CONSTRUCTIONS[0], (("a",), ("b",), ("c",), ("ma",), ("mb",), ("mc",), ("g", "k"))),
            (free("a") + tuple(("slide", name, "a", "a") for name in "bcdefg"), (tuple("abcdefg"),)),
            (TRIANGLE, (("a",), ("b",), ("c",))),
        ):
            self.assertEqual(families(built(steps)), expected)

    def test_eight_points_and_nine(self):
        steps = free("abc") + tuple(("part", name, "a", "b", at, 7) for at, name in enumerate("defgh"))
        construction = built(steps)
        self.assertEqual(len(construction.points()), 8)
        # All triples of seven points on a line, and c beside a and d, which are one point.
        self.assertEqual(len(truths(construction, "on_line")), 36)
        self.assertEqual(families(construction)[0], ("a", "d"))
        for more in (("over", "i", "a", "b"), ("part", "i", "a", "b", 1, 1), ("slide", "i", "c", "b")):
            construction.add(more)
            for kind in KINDS:
                with self.assertRaises(TooMany) as caught:
                    truths(construction, kind)
                self.assertEqual(caught.exception.word, "points")
            with self.assertRaises(TooMany) as caught:
                families(construction)
            self.assertEqual(caught.exception.word, "points")
            self.check_no_kinds(construction)
            construction = built(steps)

    def check_no_kinds(self, construction):
        for kind in NO_KINDS:
            with self.assertRaises(BadValue, msg=repr(kind)) as caught:
                truths(construction, kind)
            self.assertEqual(caught.exception.at, 1)

    def test_other_kinds(self):
        for steps in ((), TRIANGLE, CONSTRUCTIONS[0]):
            self.check_no_kinds(built(steps))

    def test_arguments(self):
        construction = built(TRIANGLE + MIDDLES)
        self.assertEqual(truths(construction=construction, kind="parallel"), truths(construction, "parallel"))
        self.assertEqual(families(construction=construction), families(construction))


if __name__ == "__main__":
    unittest.main()
