"""[16]: the same point made in two constructions, and the first figure of both that parts two points."""

import copy
import unittest
from fractions import Fraction

from figurehold.constructions import Construction, built
from figurehold.deciding import holds
from figurehold.errors import BadPoint, BadValue, Impossible, TooMany
from figurehold.figures import is_figure, places
from figurehold.polys import less, multiplied
from figurehold.sameness import parting, same_point
from figurehold.triples import triple
from tests import geometry, plain
from tests.test_deciding import CENTRE, FEET, HEIGHTS, MIDDLES, TRIANGLE, free
from tests.test_figures import first_by_trying
from tests.test_triples import NO_POINTS, some_step

# Pairs of constructions over the same unknowns, each with two points: the same one, in two ways.
SAME = (
    (
        TRIANGLE + MIDDLES[:2] + (("meet", "g", "a", "ma", "b", "mb"),), "g",
        TRIANGLE + MIDDLES[2:] + (("part", "g", "c", "mc", 2, 3),), "g",
    ),
    (TRIANGLE + FEET[:2] + HEIGHTS, "h", TRIANGLE + FEET[1:] + (("meet", "k", "b", "fb", "c", "fc"),), "k"),
    (TRIANGLE + CENTRE, "o", TRIANGLE + (("centre", "z", "c", "a", "b"),), "z"),
    (TRIANGLE, "b", TRIANGLE + (("over", "d", "b", "c"), ("over", "e", "d", "c")), "e"),
    (
        TRIANGLE + (("mirror", "d", "a", "b", "c"),), "d",
        TRIANGLE + (("foot", "f", "a", "b", "c"), ("over", "d", "a", "f")), "d",
    ),
    (
        free("ab") + (("slide", "c", "a", "b"), ("part", "d", "a", "c", 1, 2)), "d",
        free("ab") + (("part", "m", "a", "b", 1, 2), ("slide", "c", "a", "m")), "c",
    ),
    (free("ab") + (("shift", "d", "b", "a", "b"),), "d", free("ab") + (("part", "q", "a", "b", 2, 1),), "q"),
    (
        free("ab") + (("turn", "d", "a", "a", "b"), ("turn", "e", "d", "d", "a")), "e",
        free("ab") + (("turn", "g", "b", "a", "b"),), "g",
    ),
)
# Likewise of points that are not the same.
SLIDE = free("ab") + (("slide", "c", "a", "b"),)
UNLIKE = (
    (TRIANGLE, "a", TRIANGLE, "b"),
    (TRIANGLE + MIDDLES, "ma", TRIANGLE + MIDDLES, "mb"),
    (TRIANGLE + FEET[:2] + HEIGHTS, "h", TRIANGLE + CENTRE, "o"),
    (TRIANGLE + FEET, "fa", TRIANGLE + MIDDLES, "ma"),
    (SLIDE, "c", free("ab") + (("slide", "c", "b", "a"),), "c"),
    (SLIDE, "c", free("ab") + (("slide", "c", "a", "a"),), "c"),
    (free("ab") + (("turn", "c", "a", "a", "b"),), "c", free("ab") + (("turn", "c", "a", "b", "a"),), "c"),
    (SLIDE + (("foot", "f", "a", "b", "c"),), "a", SLIDE + (("foot", "f", "a", "a", "c"),), "c"),
)


def by_polynomials(one, p, other, q):
    """[16] to the letter."""
    (xp, yp, wp), (xq, yq, wq) = triple(one, p), triple(other, q)
    return not less(multiplied(xp, wq), multiplied(xq, wp)) and not less(multiplied(yp, wq), multiplied(yq, wp))


def parted(one, p, other, q, pairs):
    """Whether these values are of a figure of both in which the places are unlike, by plain geometry."""
    known = {name: Fraction(k) for name, k in pairs}
    try:
        return geometry.places(one.steps(), known)[p] != geometry.places(other.steps(), known)[q]
    except geometry.NoPoint:
        return False


def some_pair(source, many):
    """Two constructions over the same unknowns out of a random source."""
    while True:
        built_ones = [built(free("ab")), built(free("ab"))]
        slides = source.randint(0, 2)
        for construction in built_ones:
            names = iter("cdefgh")
            waiting = slides
            for _ in range(many):
                words = ["part", "shift", "turn", "over", "foot", "meet", "mirror"]
                word = "slide" if waiting and source.random() < 0.5 else source.choice(words)
                name = f"s{'uvw'[slides - waiting]}" if word == "slide" else next(names)
                step = some_step(source, word, name, construction.points()[:5])
                try:
                    construction.add(step)
                except (Impossible, TooMany):
                    continue
                waiting -= word == "slide"
        if built_ones[0].unknowns() == built_ones[1].unknowns():
            return built_ones


class SamenessTest(unittest.TestCase):
    def check_one_of_both(self, one, p, other, q):
        """Just one of both is; returns whether they are the same."""
        kept = one.steps(), other.steps()
        answer = same_point(one, p, other, q)
        found = parting(one, p, other, q)
        self.assertIs(answer, found is None)
        self.assertIs(same_point(other, q, one, p), answer)
        self.assertEqual(parting(other, q, one, p), found)
        if found is not None:
            self.assertTrue(plain.is_tuples(found))
            self.assertEqual(tuple(name for name, _ in found), one.unknowns())
            self.assertTrue(all(type(k) is int and k >= 0 for _, k in found))
            self.assertIs(is_figure(one, found) and is_figure(other, found), True)
            self.assertNotEqual(dict(places(one, found))[p], dict(places(other, found))[q])
        self.assertEqual((one.steps(), other.steps()), kept)
        return answer

    def check_first(self, one, p, other, q):
        """It is the first one, all whole numbers being tried, if they are not very many."""
        found = parting(one, p, other, q)
        if (max(k for _, k in found) + 1) ** len(found) > 5000:
            return False
        self.assertEqual(found, first_by_trying(one.unknowns(), lambda pairs: parted(one, p, other, q, pairs)))
        return True

    def test_the_same_in_two_ways(self):
        for steps, p, others, q in SAME:
            one, other = built(steps), built(others)
            self.assertIs(self.check_one_of_both(one, p, other, q), True, (steps, others))
            self.assertIs(by_polynomials(one, p, other, q), True)
            self.assertIsNone(parting(one, p, other, q))

    def test_unlike(self):
        for steps, p, others, q in UNLIKE:
            one, other = built(steps), built(others)
            self.assertIs(self.check_one_of_both(one, p, other, q), False, (steps, others))
            self.assertIs(by_polynomials(one, p, other, q), False)
            self.assertIs(self.check_first(one, p, other, q), True)

    def test_in_one_construction(self):
        for steps, *_ in SAME + UNLIKE:
            one = built(steps)
            for p in one.points():
                for q in one.points():
                    self.assertIs(self.check_one_of_both(one, p, one, q), holds(one, ("same", p, q)))

    def test_names_and_slides_of_another_kind(self):
        one = built(free("ab") + (("slide", "c", "a", "b"), ("turn", "d", "a", "a", "c")))
        other = built(free("ab") + (("turn", "k", "a", "a", "b"), ("slide", "c", "a", "k"), ("part", "l", "a", "c", 1, 1)))
        self.assertEqual(one.unknowns(), other.unknowns())
        self.assertIs(self.check_one_of_both(one, "d", other, "c"), True)
        self.assertIs(self.check_one_of_both(one, "d", other, "l"), True)
        self.assertIs(self.check_one_of_both(one, "c", other, "c"), False)
        self.assertEqual(
            parting(one, "c", other, "c"), (("x_a", 0), ("y_a", 0), ("x_b", 0), ("y_b", 1), ("t_c", 1))
        )
        self.assertIs(self.check_one_of_both(one, "b", other, "b"), True)

    def test_against_the_polynomials_and_trying(self):
        source = plain.source(161)
        seen = {True: 0, False: 0}
        tried = 0
        for _ in range(60):
            one, other = some_pair(source, 4)
            for _ in range(4):
                p, q = source.choice(one.points()[2:] or "a"), source.choice(other.points()[2:] or "b")
                if max(len(part) for part in triple(one, p) + triple(other, q)) > 60:
                    continue
                answer = self.check_one_of_both(one, p, other, q)
                self.assertIs(answer, by_polynomials(one, p, other, q), (one.steps(), p, other.steps(), q))
                seen[answer] += 1
                if not answer:
                    tried += self.check_first(one, p, other, q)
        self.assertGreater(min(seen.values()), 15)
        self.assertGreater(tried, 100)

    def test_figures_of_both_alone(self):
        # Of one alone a figure comes sooner: it is one of the other just if b and c are apart, too.
        one = built(TRIANGLE)
        other = built(TRIANGLE + (("foot", "f", "a", "b", "c"), ("centre", "o", "a", "b", "c"), ("foot", "g", "o", "b", "a")))
        alone = parting(one, "a", one, "c")
        both = parting(one, "a", other, "c")
        self.assertEqual(dict(alone)["x_c"], 0)
        self.assertIs(is_figure(other, alone), False)
        self.assertIs(is_figure(other, both), True)
        self.assertEqual(both, parting(other, "a", one, "c"))
        self.assertEqual(both, first_by_trying(one.unknowns(), lambda pairs: parted(one, "a", other, "c", pairs)))
        # Conditions of points behind those that are named, and of each construction one.
        steps = free("ab") + (("slide", "c", "a", "b"),)
        first = built(steps + (("foot", "f", "a", "a", "c"),))
        second = built(steps + (("foot", "f", "a", "b", "c"),))
        found = parting(first, "a", second, "b")
        self.assertEqual(found, (("x_a", 0), ("y_a", 0), ("x_b", 0), ("y_b", 1), ("t_c", 2)))
        self.assertEqual(parting(first, "a", first, "b")[-1], ("t_c", 1))
        self.assertEqual(parting(second, "a", second, "b")[-1], ("t_c", 0))

    def test_over_other_unknowns(self):
        one = built(TRIANGLE + (("slide", "d", "a", "b"),))
        for steps in (
            (), free("ab"), TRIANGLE, free("abcd"), free("acb") + (("slide", "d", "a", "b"),), free("abd") + (("slide", "c", "a", "b"),),
            free("ab") + (("slide", "d", "a", "b"), ("free", "c")), TRIANGLE + (("slide", "d", "a", "b"), ("slide", "e", "a", "b")),
        ):
            other = built(steps)
            for action in (same_point, parting):
                for p, q in (("a", "a"), ("q", "q"), (None, []), ("a", 5)):
                    for first, second in ((one, other), (other, one)):
                        with self.assertRaises(BadValue) as caught:
                            action(first, p, second, q)
                        self.assertEqual(caught.exception.at, 2)

    def test_bad_points(self):
        one, other = built(TRIANGLE), built(TRIANGLE + (("over", "d", "a", "b"),))
        for action in (same_point, parting):
            for thing in NO_POINTS + ("d",):
                handed = copy.deepcopy(thing)
                for p, q in ((thing, "a"), (thing, "q"), (thing, None)):
                    with self.assertRaises(BadPoint) as caught:
                        action(one, p, other, q)
                    self.assertEqual(caught.exception.name, handed)
                with self.assertRaises(BadPoint) as caught:
                    action(other, "d", one, thing)
                self.assertEqual(caught.exception.name, handed)
                self.assertEqual(thing, handed)
        empty = Construction()
        with self.assertRaises(BadPoint):
            same_point(empty, "a", empty, "a")

    def test_arguments(self):
        one, other = built(TRIANGLE), built(TRIANGLE + (("over", "d", "a", "b"),))
        self.assertIs(same_point(one=one, p="a", other=other, q="d"), False)
        self.assertEqual(parting(one=one, p="a", other=other, q="d"), parting(one, "a", other, "d"))


if __name__ == "__main__":
    unittest.main()
