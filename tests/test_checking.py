"""[15]: which papers are taken, and which line of the others is wrong."""

import copy
import unittest

from figurehold.checking import paper_holds
from figurehold.constructions import built
from figurehold.deciding import holds
from figurehold.errors import BadClaim, BadPaper
from figurehold.papers import paper
from tests import formulas, plain
from tests.test_claims import LENGTHS, some_claim
from tests.test_constructions import NO_SEQUENCES
from tests.test_deciding import THEOREMS, free
from tests.test_papers import TRI, small_claims, true_claims
from tests.test_triples import some_construction

NO_STRINGS = (None, True, False, 0, 7, 10 ** 30, (), [], ("claim 0\n",), ["claim 0\n"], [["claim", 0]])
SAME = free("ab") + (("part", "c", "a", "b", 1, 2), ("part", "d", "b", "a", 2, 4), ("over", "e", "c", "d"))


def wrong_from(lines, text):
    """The number of the first line of the text that is not as it must be, or None."""
    told = text.split("\n")
    told = [line + "\n" for line in told[:-1]] + told[-1:]
    if told[-1] == "":
        told.pop()
    for at, line in enumerate(lines):
        if at == len(told) or told[at] != line:
            return at
    return len(lines) if len(told) > len(lines) else None


class CheckingTest(unittest.TestCase):
    def check_bad(self, construction, claim, text, at):
        with self.assertRaises(BadPaper, msg=repr(text)[:200]) as caught:
            paper_holds(construction, claim, text)
        self.assertEqual(caught.exception.at, at, repr(text)[:200])
        self.assertIs(type(caught.exception.at), int)

    def check_text(self, construction, claim, lines, text):
        """The text is refused where it is wrong, or taken if it is the paper."""
        at = wrong_from(lines, text)
        if at is None:
            self.assertEqual(text, "".join(lines))
            self.assertIs(paper_holds(construction, claim, text), True)
        else:
            self.check_bad(construction, claim, text, at)

    def test_each_paper_is_taken(self):
        for steps, claim in small_claims():
            construction = built(steps)
            self.assertIs(paper_holds(construction, claim, paper(construction, claim)), True)
        source = plain.source(151)
        for at in range(40):
            construction = some_construction(source, 4 + at % 4)
            for claim in true_claims(source, construction, 1):
                self.assertIs(paper_holds(construction, list(claim), paper(construction, claim)), True)

    def test_lines_that_are_changed(self):
        source = plain.source(152)
        cases = [case for case in small_claims() if len(paper(built(case[0]), case[1])) < 6000]
        cases.append((SAME, ("same", "c", "e")))
        for steps, claim in cases:
            construction = built(steps)
            text = paper(construction, claim)
            lines = [line + "\n" for line in text.split("\n")[:-1]]
            changed = ["", "\n", text + "\n", text + "x", text + "out a 0\n", text + lines[-1], text + text, text[:-1]]
            changed += [text[:-1] + "\r\n", text[:-1] + " \n", " " + text, "\n" + text, text.upper(), text.replace("\n", "\r")]
            for at, line in enumerate(lines):
                ahead, behind = lines[:at], lines[at + 1:]
                for other in (
                    line[:-1] + " \n", " " + line, line[:-1], line.replace(" ", "  ", 1), "\n", "0\n", "claim 0\n",
                    line.replace("out ", "OUT ").replace("claim ", "Claim "), line.replace(" 0\n", " 1\n"),
                    line.replace(" 0\n", " - 0\n"), line.replace("*", ""), line.replace("_a", "_b"), line * 2,
                    "out a 0\n" + line, line + "\n", line[:-1] + "\r\n",
                ):
                    changed.append("".join(ahead + [other] + behind))
                changed.append("".join(ahead + behind))
                changed.append("".join(ahead))
                changed.append("".join(ahead) + line[:-1])
                for other in range(at):
                    swapped = list(lines)
                    swapped[at], swapped[other] = lines[other], lines[at]
                    changed.append("".join(swapped))
            for _ in range(30):
                at = source.randint(0, len(text) - 1)
                changed.append(text[:at] + source.choice(["", "1", "a", "\n", " ", "-", "+"]) + text[at + source.randint(0, 1):])
            for other in changed:
                self.check_text(construction, claim, lines, other)

    def test_ends(self):
        construction = built(TRI)
        claim = ("parallel", "m", "n", "a", "b")
        text = paper(construction, claim)
        first, second, third = [line + "\n" for line in text.split("\n")[:-1]]
        for told, at in (
            ("", 0), ("\n", 0), (first[:-1], 0), (first, 1), (first + "\n", 1), (first + second, 2), (first + third, 1),
            (first + second + third[:-1], 2), (text + "\n", 3), (text + "x", 3), (text + " ", 3), (text + text, 3),
            (second + third, 0), (first + first + second + third, 1), (first + second + second + third, 2),
            (second + first + third, 0), (first + third + second, 1), (text[:-2] + "1\n", 2), ("x" + text, 0),
        ):
            self.check_bad(construction, claim, told, at)

    def test_both_polynomials(self):
        construction = built(SAME)
        text = paper(construction, ("same", "c", "d"))
        lines = [line + "\n" for line in text.split("\n")[:-1]]
        self.assertEqual([line.split(" ")[0] for line in lines], ["claim", "out", "out"] * 2)
        self.check_bad(construction, ("same", "c", "d"), "".join(lines[:3]), 3)
        self.check_bad(construction, ("same", "c", "d"), "".join(lines[3:]), 0)
        self.check_bad(construction, ("same", "c", "d"), "".join(lines[3:] + lines[:3]), 0)
        self.check_bad(construction, ("same", "c", "d"), "".join(lines[:3] * 2), 3)
        self.check_bad(construction, ("same", "c", "d"), "".join(lines[:4] + ["out d 0\n"]), 4)
        self.check_bad(construction, ("same", "c", "d"), "".join(lines[:2] + lines[3:]), 2)
        self.assertIs(paper_holds(construction, ("same", "a", "a"), "claim 0\nclaim 0\n"), True)
        self.check_bad(construction, ("same", "a", "a"), "claim 0\n", 1)
        self.check_bad(construction, ("same", "a", "a"), "claim 0\nclaim 0\nclaim 0\n", 2)
        self.check_bad(construction, ("on_line", "a", "a", "b"), "claim 0\nclaim 0\n", 1)

    def test_papers_of_other_claims(self):
        source = plain.source(153)
        for at in range(8):
            construction = some_construction(source, 4 + at % 3)
            papers = {claim: paper(construction, claim) for claim in true_claims(source, construction, 1)}
            for claim, right in papers.items():
                for text in papers.values():
                    if text == right:
                        self.assertIs(paper_holds(construction, claim, text), True)
                    else:
                        with self.assertRaises(BadPaper):
                            paper_holds(construction, claim, text)

    def check_false(self, construction, claim):
        """All lines are right; the last one of the first polynomial that is not 0 is wrong all the same."""
        blocks = formulas.paper_lines(construction.steps(), claim)
        right = []
        for lines, said in blocks:
            right += lines
            if not said:
                break
        text = "".join(line for lines, _ in blocks for line in lines)
        for told in (text, "".join(right), "".join(right[:-1]), "".join(right)[:-1], text + "x", text + "\n"):
            self.check_bad(construction, claim, told, len(right) - 1)
        words = right[-1].split(" ")
        nought = " ".join(words[:2] if words[0] == "out" else words[:1]) + " 0\n"
        self.check_bad(construction, claim, "".join(right[:-1]) + nought, len(right) - 1)
        for at in range(len(right) - 1):
            self.check_bad(construction, claim, "".join(right[:at]), at)
            self.check_bad(construction, claim, "".join(right[:at] + ["0\n"] + right[at + 1:]), at)

    def test_claims_that_do_not_hold(self):
        construction = built(SAME)
        for claim in (("same", "c", "a"), ("same", "a", "b"), ("same", "e", "b"), ("perpendicular", "a", "b", "a", "c")):
            self.check_false(construction, claim)
        source = plain.source(154)
        words = set()
        while len(words) < len(LENGTHS):
            construction = some_construction(source, source.randint(3, 5))
            claim = some_claim(source, source.choice(sorted(LENGTHS)), construction.points())
            if not holds(construction, claim):
                self.check_false(construction, claim)
                words.add(claim[0])

    def test_a_wrong_line_ahead_of_large_ones(self):
        steps, *pairs = THEOREMS["mirrored heights"]
        construction = built(steps)
        for claim in pairs[0]:
            for told, at in (("", 0), ("claim 0\n", 0), ("claim", 0)):
                self.check_bad(construction, claim, told, at)

    def test_no_strings(self):
        construction = built(TRI)
        for claim in (("parallel", "m", "n", "a", "b"), ("parallel", "m", "n", "a", "c")):
            for thing in NO_STRINGS:
                handed = copy.deepcopy(thing)
                self.check_bad(construction, claim, thing, 0)
                self.assertEqual(thing, handed)

    def test_bad_claims_first(self):
        construction = built(TRI)
        good = paper(construction, ("parallel", "m", "n", "a", "b"))
        for told in NO_STRINGS + ("", good, "claim 0\n"):
            for claim, at in [(thing, 0) for thing in NO_SEQUENCES] + [
                (("parallel", "m", "n", "a"), 0), (("parallel", "m", "n", "q", None), 3), (["same", "a", []], 2), ((), 0),
            ]:
                with self.assertRaises(BadClaim) as caught:
                    paper_holds(construction, claim, told)
                self.assertEqual(caught.exception.at, at)

    def test_arguments(self):
        construction = built(TRI)
        claim = ["parallel", "m", "n", "a", "b"]
        text = paper(construction, claim)
        self.assertIs(paper_holds(construction=construction, claim=claim, paper=text), True)
        self.assertEqual((claim, construction), (["parallel", "m", "n", "a", "b"], built(TRI)))


if __name__ == "__main__":
    unittest.main()
