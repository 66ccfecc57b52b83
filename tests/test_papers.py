"""[14]: the papers of claims that hold, line by line."""

import copy
import unittest

from figurehold.constructions import Construction, built
from figurehold.deciding import holds
from figurehold.errors import BadClaim, NothingThere
from figurehold.outs import RADIX, first_polys
from figurehold.papers import paper
from figurehold.polys import degree_in, read_poly, value, variables
from figurehold.truths import truths
from tests import formulas, plain
from tests.test_claims import LENGTHS, some_claim
from tests.test_constructions import NO_POINTS, NO_SEQUENCES, NO_WORDS
from tests.test_deciding import CENTRE, FEET, HEIGHTS, MIDDLES, THEOREMS, TRIANGLE, free
from tests.test_triples import some_construction

# Claims of which some line would have more than 2,000 terms.
LARGE = (
    ("on_circle", "a", "h", "fb", "fc"), ("on_circle", "ma", "fb", "mc", "fa"), ("on_circle", "fa", "fb", "fc", "mb"),
    ("on_circle", "a", "b", "c", "k"), ("on_circle", "a", "b", "c", "p"),
)
TRI = TRIANGLE + (("part", "m", "b", "c", 1, 2), ("part", "n", "a", "c", 1, 2))


def joined(steps, claim):
    """The paper to the letter of [14], by plain reckoning."""
    return "".join(line for lines, _ in formulas.paper_lines(steps, claim) for line in lines)


def true_claims(source, construction, many):
    """Some claims that hold, of all kinds."""
    found = []
    for kind in ("same", "on_line", "parallel", "perpendicular", "equal_length", "on_circle"):
        told = truths(construction, kind)
        found += source.sample(told, min(many, len(told)))
    points = construction.points()
    for word in LENGTHS:
        a, b, c = source.choice(points), source.choice(points), source.choice(points)
        claim = (word, *[a, a, b, b, a, c][:LENGTHS[word]])
        if holds(construction, claim):
            found.append(claim)
    return found


def small_claims():
    """Pairs of steps and a claim, within the limits of [3]."""
    for steps, *pairs in THEOREMS.values():
        for claim, _ in pairs:
            if claim not in LARGE:
                yield steps, claim


def number(p, known):
    """The value of a polynomial with these integers for its variables."""
    n, d = value(p, [(name, (k, 1)) for name, k in known.items()])
    assert d == 1
    return n


class PapersTest(unittest.TestCase):
    def check_letters(self, construction, claim):
        found = paper(construction, claim)
        self.assertIs(type(found), str)
        self.assertEqual(found, joined(construction.steps(), claim), (construction.steps(), claim))
        return found

    def test_a_small_one(self):
        self.assertEqual(
            paper(built(TRI), ("parallel", "m", "n", "a", "b")),
            "claim - W_a*W_m*X_b*Y_n + W_a*W_m*X_n*Y_b + W_a*W_n*X_b*Y_m - W_a*W_n*X_m*Y_b + W_b*W_m*X_a*Y_n"
            " - W_b*W_m*X_n*Y_a - W_b*W_n*X_a*Y_m + W_b*W_n*X_m*Y_a\n"
            "out n - 2*W_a*W_b*W_c*X_a*Y_m + 2*W_a*W_b*W_c*X_m*Y_a + W_a*W_b*W_m*X_a*Y_c - W_a*W_b*W_m*X_c*Y_a"
            " + W_a*W_c*W_m*X_a*Y_b - W_a*W_c*W_m*X_b*Y_a + 2*W_a^2*W_c*X_b*Y_m - 2*W_a^2*W_c*X_m*Y_b"
            " - W_a^2*W_m*X_b*Y_c + W_a^2*W_m*X_c*Y_b\n"
            "out m 0\n",
        )

    def test_the_first_lines_of_each_kind(self):
        construction = built(free("abcd"))
        for claim, text in (
            (("same", "a", "a"), "claim 0\nclaim 0\n"),
            (("on_line", "a", "b", "a"), "claim 0\n"),
            (("parallel", "a", "b", "b", "a"), "claim 0\n"),
            (("equal_length", "a", "b", "b", "a"), "claim 0\n"),
            (("perpendicular", "c", "c", "a", "b"), "claim 0\n"),
            (("equal_area", "a", "b", "c", "b", "c", "a"), "claim 0\n"),
            (("on_circle", "d", "b", "c", "d"), "claim 0\n"),
            (("one_meet", "a", "b", "b", "a", "c", "d"), "claim 0\n"),
        ):
            self.assertEqual(paper(construction, claim), text, claim)
            self.assertEqual(joined(construction.steps(), claim), text)

    def test_two_polynomials(self):
        steps = free("ab") + (("part", "c", "a", "b", 1, 2), ("part", "d", "b", "a", 2, 4))
        self.assertEqual(
            paper(built(steps), ("same", "c", "d")),
            "claim - W_c*X_d + W_d*X_c\n"
            "out d 4*W_a*W_b*X_c - 2*W_a*W_c*X_b - 2*W_b*W_c*X_a\n"
            "out c 0\n"
            "claim - W_c*Y_d + W_d*Y_c\n"
            "out d 4*W_a*W_b*Y_c - 2*W_a*W_c*Y_b - 2*W_b*W_c*Y_a\n"
            "out c 0\n",
        )

    def test_unknowns_of_slides_stay(self):
        steps = free("ab") + (("slide", "c", "a", "b"), ("over", "d", "a", "c"))
        text = self.check_letters(built(steps), ("on_line", "d", "b", "a"))
        self.assertEqual([line.split(" ")[:2] for line in text.split("\n")[1:-1]], [["out", "d"], ["out", "c"]])
        text = self.check_letters(built(steps + (("part", "e", "a", "d", 1, 2),)), ("same", "e", "c"))
        self.assertNotIn("t_c", text)
        text = self.check_letters(built(steps + (("over", "e", "c", "d"),)), ("on_line", "a", "b", "e"))
        self.assertIn("out c 0", text)
        steps = free("ab") + (("slide", "c", "a", "b"), ("shift", "d", "c", "a", "b"))
        claim = ("on_line", "a", "b", "d")
        self.assertEqual(self.check_letters(built(steps), claim).split("\n")[2], "out c 0")
        steps = free("abo") + (("slide", "c", "a", "b"), ("part", "d", "o", "c", 1, 2), ("part", "e", "o", "a", 1, 2))
        steps = steps + (("part", "f", "o", "b", 1, 2),)
        self.assertIn("t_c", joined(steps, ("on_line", "d", "f", "b")))
        self.check_letters(built(steps), ("on_line", "d", "e", "f"))

    def test_theorems(self):
        seen = 0
        for steps, claim in small_claims():
            if len(paper(built(steps), claim)) < 3000:
                self.check_letters(built(steps), claim)
                seen += 1
        self.assertGreater(seen, 10)

    def test_against_plain_reckoning(self):
        source = plain.source(141)
        words = {}
        lengths = set()
        for at in range(60):
            construction = some_construction(source, 4 + at % 3)
            for claim in true_claims(source, construction, 2):
                if len(paper(construction, claim)) < 3000:
                    text = self.check_letters(construction, claim)
                    words[claim[0]] = words.get(claim[0], 0) + 1
                    lengths.add(text.count("\n"))
        self.assertEqual(set(words), set(LENGTHS))
        self.assertTrue({1, 2, 3, 4} <= lengths)

    def test_each_line_by_the_one_ahead_in_numbers(self):
        source = plain.source(142)
        for steps, claim in small_claims():
            known = {f"{letter}_{step[1]}": source.randint(-50, 50) for step in steps for letter in "XYWxyt"}
            own = {step[1]: tuple(known[f"{letter}_{step[1]}"] for letter in "XYW") for step in steps}
            said = list(formulas.said(claim[0], [own[point] for point in claim[1:]]))
            text = paper(built(steps), claim)
            self.assertTrue(text.endswith("\n"))
            for line in text.split("\n")[:-1]:
                words, ahead = line.split(" "), None if line.startswith("claim ") else p
                p = read_poly(" ".join(words[1 if ahead is None else 2:]))
                if ahead is None:
                    self.assertEqual(number(p, known), said.pop(0))
                    continue
                present = {name[2:] for name in variables(ahead) if name[0].isupper()}
                step = [step for step in steps if step[1] in present][-1]
                self.assertEqual(words[:2], ["out", step[1]])
                self.assertNotIn(step[1], {name[2:] for name in variables(p) if name[0].isupper()})
                triple = formulas.triple_of(step, own, known)
                put = dict(zip([f"{letter}_{step[1]}" for letter in "XYW"], triple))
                self.assertEqual(number(p, known), number(ahead, {**known, **put}))
            self.assertEqual((words[-1], said), ("0", []))

    def test_large_ones(self):
        # Beyond 2,000 terms in a line: no limit is told for papers.
        steps, claim = THEOREMS["a point of the circle"][0], ("on_circle", "a", "b", "c", "p")
        lines = paper(built(steps), claim).split("\n")
        self.assertEqual([line.split(" ")[1] for line in lines[1:-1]], ["p", "d", "o"])
        self.assertGreater(lines[2].count(" ") // 2, 2000)
        self.assertEqual(lines[3:], ["out o 0", ""])

    def test_no_claim_has_exponents_up_to_the_radix(self):
        for word, many in LENGTHS.items():
            for p in first_polys((word, *("abcdef"[:many]))) + first_polys((word, *("abaaab"[:many]))):
                self.assertLess(max([degree_in(p, name) for name in variables(p)], default=0), RADIX // 10)

    def test_arguments(self):
        construction = built(TRI)
        claim = ["parallel", "m", "n", "a", "b"]
        kept = list(claim)
        found = paper(construction, claim)
        self.assertEqual(found, paper(construction=construction, claim=tuple(claim)))
        self.assertEqual((claim, construction), (kept, built(TRI)))

    def test_bad_claims(self):
        construction = built(TRI)
        for claim, at in [(thing, 0) for thing in NO_SEQUENCES] + [
            ((), 0), (("same",), 0), (("same", "a"), 0), (("same", "a", "b", "c"), 0), (["on_line", "a", "b", "q"], 3),
            (("parallel", "q", "n", "a", None), 1), (("same", "a", ["a"]), 2), (("on_circle", "a", "b", "c", True), 4),
        ] + [((word, "a", "b"), 0) for word in NO_WORDS] + [(("same", "a", point), 2) for point in NO_POINTS]:
            handed = copy.deepcopy(claim)
            with self.assertRaises(BadClaim, msg=repr(claim)) as caught:
                paper(construction, claim)
            self.assertEqual(caught.exception.at, at)
            self.assertEqual(claim, handed)
        with self.assertRaises(BadClaim) as caught:
            paper(Construction(), ("same", "a", "a"))
        self.assertEqual(caught.exception.at, 1)

    def test_claims_that_do_not_hold(self):
        for steps, *pairs in THEOREMS.values():
            construction = built(steps)
            for _, claim in pairs:
                with self.assertRaises(NothingThere) as caught:
                    paper(construction, claim)
                self.assertEqual(caught.exception.word, "paper")
        construction = built(free("abc") + (("slide", "d", "a", "b"),))
        for claim in (("same", "a", "b"), ["on_line", "a", "b", "c"], ("same", "a", "d")):
            with self.assertRaises(NothingThere) as caught:
                paper(construction, claim)
            self.assertEqual(caught.exception.word, "paper")

    def test_just_claims_that_hold_have_papers(self):
        source = plain.source(143)
        for at in range(80):
            construction = some_construction(source, 3 + at % 4)
            claim = some_claim(source, sorted(LENGTHS)[at % 8], construction.points()[:5])
            try:
                found = paper(construction, claim)
            except NothingThere:
                found = None
            self.assertEqual(holds(construction, claim), found is not None)
            if found is not None:
                self.assertEqual(found.count("claim "), 2 if claim[0] == "same" else 1)


if __name__ == "__main__":
    unittest.main()
