"""[24] and [25]: what a desk answers to each line, what it refuses, and logs that are replayed."""

import unittest

from figurehold.claims import true_in
from figurehold.constructions import Construction, built
from figurehold.deciding import counter, holds
from figurehold.desk import Desk, replayed
from figurehold.errors import BadLine, FigureError
from figurehold.figures import places
from figurehold.hanging import changed, hangs_on
from figurehold.papers import paper
from figurehold.truths import truths
from tests import plain
from tests.test_claims import LENGTHS, some_claim
from tests.test_poly_texts import NO_STRINGS
from tests.test_texts import NO_INTEGERS
from tests.test_triples import some_construction, some_step
from tests.test_truths import KINDS

START = ("step free a", "step free b", "step free c", "step part m b c 1 2", "step part n a c 1 2")
VALUES = "x_a=0 y_a=0 x_b=-3 y_b=4 x_c=5 y_c=0"
NO_LINES = (
    "", " ", "\n", "nothing", "Step free d", "step", "step ", " step free d", "step free d ", "step  free d", "step free  d", "step free",
    "step free D", "step free abcde", "step free d\n", "step free\nd", "\nstep free d", "step free d;", "step free d e", "step fre d",
    "step part d a b 1 02", "step part d a b 1 -0", "step part d a b 1 1000000000", "step part d a b +1 2", "step same a b", "free d",
    "step\tfree d", "step free \u00e9", "step free d\r", "change", "change ", "change free", "change part m b c 1", "change same a b",
    "change free M", "undo ", "undo undo", "undo 1", " undo", "undo\n", "UNDO", "holds", "holds ", "holds same a", "holds same a b c",
    "holds free a", "holds a b", "holds same a B", "holds same a b ", "holds same  a b", "holds same a abcde", "lines", "lines ",
    "lines same a", "lines free a", "lines same a b\n", "truths", "truths ", "truths On_line", "truths on line", "truths same ", "truths 1",
    "truths on-line", "truths same same", "truths same\n", "truths \u00e9", "hangs", "hangs ", "hangs a b", "hangs A", "hangs a_", "hangs 1",
    "hangs a ", "hangs  a", "hangs a\n", "places ", "places a", "places x_a", "places x_a=", "places =1", "places x_a=1 ", "places  x_a=1",
    "places x_a=1  y_a=1", "places X_a=1", "places x_A=1", "places x_=1", "places _a=1", "places xa=1", "places xx_a=1", "places x_abcde=1",
    "places x_a=1=2", "places x_a==1", "places x_a=1/2", "places x_a =1", "places x_a= 1", "places x_a=1,y_a=2", "places x_a=1;",
    "places x_a=1\n", "places 1_a=1", "places \u00e9_a=1", "places x_a=1 y_a", "steps ", " steps", "steps 1", "steps\n", "Steps", "steps steps",
    "log", "quit", "x" * 100000, "\x00", "\u00e9", "step free d\x00",
)


def fraction_text(fraction):
    n, d = fraction
    return f"{n}/{d}" if d != 1 else f"{n}"


def answer(construction, line):
    """The answer by [24] and the construction behind it, by the other modules."""
    word, *words = line.split(" ")
    thing = tuple(int(k) if k.lstrip("-").isdigit() else k for k in words)
    try:
        if word == "step":
            return "ok", built(construction.steps() + (thing,))
        if word == "change":
            return "ok", changed(construction, thing)
        if word == "undo":
            steps = construction.steps()
            return ("ok", built(steps[:-1])) if steps else ("no NothingThere", construction)
        if word == "holds":
            found = counter(construction, thing)
            return "yes" if found is None else "no" + "".join(f" {name}={k}" for name, k in found), construction
        if word == "lines":
            return str(len(paper(construction, thing).splitlines())), construction
        if word == "truths":
            return "; ".join(" ".join(claim) for claim in truths(construction, *words)), construction
        if word == "hangs":
            return " ".join(hangs_on(construction, *words)), construction
        if word == "places":
            values = [(name, int(k)) for name, k in (pair.split("=") for pair in words)]
            told = places(construction, values)
            return "; ".join(f"{p} {fraction_text(x)} {fraction_text(y)}" for p, (x, y) in told), construction
        return "; ".join(" ".join(map(str, step)) for step in construction.steps()), construction
    except FigureError as error:
        return f"no {type(error).__name__}", construction


class DeskTest(unittest.TestCase):
    def desk(self, lines=START):
        desk = Desk()
        for line in lines:
            self.assertEqual(desk.tell(line), "ok")
        return desk

    def check_all(self, pairs, desk=None):
        """Each line has its answer, and just these lines are logged."""
        desk = desk or Desk()
        ahead = desk.log()
        for line, expected in pairs:
            found = desk.tell(line)
            self.assertIs(type(found), str)
            self.assertEqual(found, expected, line)
        self.assertEqual(desk.log(), ahead + "".join(line + "\n" for line, _ in pairs))
        return desk

    def test_a_new_desk(self):
        self.assertEqual(Desk().log(), "")
        self.check_all((("steps", ""), ("places", ""), ("undo", "no NothingThere"), ("truths same", ""), ("steps", "")))

    def test_steps_and_undo(self):
        self.check_all((
            ("step free a", "ok"), ("step free a", "no BadStep"), ("step free b", "ok"), ("steps", "free a; free b"),
            ("step part c a b -1 2", "ok"), ("steps", "free a; free b; part c a b -1 2"), ("undo", "ok"), ("step slide c a b", "ok"),
            ("steps", "free a; free b; slide c a b"), ("undo", "ok"), ("undo", "ok"), ("steps", "free a"), ("step over c a b", "no BadStep"),
            ("undo", "ok"), ("undo", "no NothingThere"), ("steps", ""), ("step free q", "ok"), ("steps", "free q"),
        ))

    def test_steps_that_are_refused(self):
        desk = self.desk()
        self.check_all((
            ("step free a", "no BadStep"), ("step part d a b 101 1", "no BadStep"), ("step part d a b 1 0", "no BadStep"),
            ("step part d a b 1 -1", "no BadStep"), ("step over d a q", "no BadStep"), ("step foot d a b b", "no Impossible"),
            ("step meet d m n a b", "no Impossible"), ("step free d", "ok"), ("step slide e a b", "no TooMany"), ("step free e", "no TooMany"),
        ), desk)
        for name in "efghij":
            self.check_all(((f"step over {name} a b", "ok"),), desk)
        self.check_all((("step over k a b", "no TooMany"), ("step over j a b", "no BadStep")), desk)
        self.assertTrue(desk.tell("steps").endswith("; over i a b; over j a b"))

    def test_change(self):
        desk = self.check_all((
            ("change free a", "no BadStep"), ("step free a", "ok"), ("step free b", "ok"), ("step part c a b 1 2", "ok"),
            ("step over d a c", "ok"), ("change part c a b 1 3", "ok"), ("steps", "free a; free b; part c a b 1 3; over d a c"),
            ("change over c d a", "no BadStep"), ("change over c c a", "no BadStep"), ("change over q a b", "no BadStep"),
            ("change part c a b 1 0", "no BadStep"), ("change foot c a b b", "no Impossible"), ("change slide c a b", "ok"),
            ("undo", "ok"), ("steps", "free a; free b; slide c a b"), ("change free c", "ok"), ("undo", "ok"), ("undo", "ok"),
            ("change slide a a a", "no BadStep"), ("change free a", "ok"), ("steps", "free a"),
        ))
        lines = ("free a", "free b", "free c", "part d a b 1 2", "slide e a b", "slide f a b", "foot g c a d")
        desk = self.desk([f"step {line}" for line in lines])
        kept = "; ".join(lines)
        self.check_all((
            ("change slide d a b", "no TooMany"), ("steps", kept), ("change part d a a 1 1", "no Impossible"), ("steps", kept),
            ("change slide f b a", "ok"), ("undo", "ok"), ("steps", "; ".join(lines[:5] + ("slide f b a",))),
        ), desk)

    def test_holds(self):
        self.check_all((
            ("holds parallel m n a b", "yes"), ("holds same a b", "no x_a=0 y_a=0 x_b=0 y_b=1 x_c=0 y_c=0"),
            ("holds perpendicular m n a c", "no x_a=0 y_a=0 x_b=0 y_b=1 x_c=0 y_c=1"), ("holds same a q", "no BadClaim"),
            ("holds on_line a b zzzz", "no BadClaim"), ("holds same m m", "yes"),
        ), self.desk())
        self.check_all((("holds same a a", "no BadClaim"), ("step free a", "ok"), ("holds same a a", "yes")))

    def test_lines(self):
        self.check_all((
            ("lines parallel m n a b", "3"), ("lines same m m", "2"), ("lines on_line a a b", "1"), ("lines on_line a b c", "no NothingThere"),
            ("lines same a q", "no BadClaim"), ("lines same m n", "no NothingThere"), ("lines on_line b m c", "2"),
        ), self.desk())

    def test_truths(self):
        desk = self.desk()
        self.check_all((
            ("truths same", ""), ("truths on_line", "on_line a c n; on_line b c m"), ("truths on_circle", ""),
            ("truths equal_length", "equal_length a n c n; equal_length b m c m"), ("truths perpendicular", ""),
            ("truths equal_area", "no BadValue"), ("truths one_meet", "no BadValue"), ("truths free", "no BadValue"),
            ("truths _", "no BadValue"), ("truths x", "no BadValue"), ("truths abcdefgh_ijk", "no BadValue"),
        ), desk)
        self.assertEqual(desk.tell("truths parallel").split("; ")[0], "parallel a b m n")
        for name in "defg":
            self.check_all(((f"step over {name} a b", "ok"),), desk)
        self.check_all((("truths same", "no TooMany"), ("truths nothing", "no BadValue"), ("undo", "ok")), desk)
        self.assertIn("same d e; same d f; same e f", desk.tell("truths same"))

    def test_hangs(self):
        self.check_all((
            ("hangs a", "a"), ("hangs m", "b c m"), ("hangs q", "no BadPoint"), ("hangs abcdefghi", "no BadPoint"),
            ("step meet g a m b n", "ok"), ("hangs g", "a b c m n g"), ("hangs n", "a c n"), ("undo", "ok"), ("hangs g", "no BadPoint"),
        ), self.desk())

    def test_places(self):
        self.check_all((
            (f"places {VALUES}", "a 0 0; b -3 4; c 5 0; m 1 2; n 5/2 0"),
            ("places y_c=0 x_c=5 y_b=4 x_b=-3 y_a=0 x_a=0", "a 0 0; b -3 4; c 5 0; m 1 2; n 5/2 0"),
            ("places", "no BadValue"), ("places x_a=1", "no BadValue"), (f"places {VALUES} x_a=0", "no BadValue"),
            (f"places {VALUES} x_m=0", "no BadValue"), ("places " + VALUES.replace("y_c", "y_a"), "no BadValue"),
            ("places " + VALUES.replace("y_c", "z_c"), "no BadValue"),
            (
                "places " + VALUES.replace("y_c=0", "y_c=-999999999"),
                "a 0 0; b -3 4; c 5 -999999999; m 1 -999999995/2; n 5/2 -999999999/2",
            ),
            ("step foot f a b c", "ok"), ("hangs f", "a b c f"), (f"places {VALUES}", "a 0 0; b -3 4; c 5 0; m 1 2; n 5/2 0; f 1 2"),
            ("places x_a=0 y_a=0 x_b=1 y_b=1 x_c=1 y_c=1", "no Broken"), ("places x_a=1 y_a=1 x_b=1 y_b=1 x_c=1 y_c=1", "no Broken"),
            ("places x_a=0 y_a=0 x_b=2 y_b=0 x_c=0 y_c=2", "a 0 0; b 2 0; c 0 2; m 1 1; n 0 1; f 1 1"),
        ), self.desk())

    def test_against_the_other_modules(self):
        source = plain.source(241)
        seen = {}
        for _ in range(25):
            desk, construction, lines = Desk(), Construction(), []
            for step in some_construction(source, source.randint(2, 6)).steps():
                lines.append("step " + " ".join(map(str, step)))
            for _ in range(30):
                points = "abcdefgh"[:source.randint(2, 7)]
                word = source.choice(["step", "change", "undo", "holds", "holds", "lines", "truths", "hangs", "places", "steps"])
                if word in ("step", "change"):
                    kind = source.choice(("part", "over", "shift", "free", "slide", "turn", "foot"))
                    rest = " ".join(map(str, some_step(source, kind, source.choice(points), points)))
                elif word in ("holds", "lines"):
                    rest = " ".join(some_claim(source, source.choice(("same", "on_line", "parallel", "equal_length")), points))
                elif word == "places":
                    names = [name for step in lines for name in self.unknowns(step)]
                    rest = " ".join(f"{name}={source.randint(-4, 4)}" for name in names)
                else:
                    rest = {"truths": source.choice(KINDS + ("no_kind",)), "hangs": source.choice(points)}.get(word, "")
                lines.append(f"{word} {rest}".rstrip(" "))
            for line in lines:
                expected, construction = answer(construction, line)
                self.assertEqual(desk.tell(line), expected, (line, construction.steps()))
                seen[line.split(" ")[0], expected[:3] == "no "] = True
            self.assertEqual(desk.log(), "".join(line + "\n" for line in lines))
            self.check_alike(replayed(desk.log()), desk)
        self.assertGreater(len(seen), 14, seen)

    def unknowns(self, line):
        words = line.split(" ")
        return [f"{letter}_{words[2]}" for letter in {"free": "xy", "slide": "t"}.get(words[1], "")] if words[0] == "step" else []

    def check_alike(self, one, other):
        self.assertEqual(one.log(), other.log())
        self.assertIsNot(one, other)
        for line in ("steps", "places", "holds same a a", "hangs b", "step turn zz a a b", "holds same zz a", "undo", "steps", "undo", "steps"):
            self.assertEqual(one.tell(line), other.tell(line))
        self.assertEqual(one.log(), other.log())


class BadLineTest(unittest.TestCase):
    def desk(self):
        desk = Desk()
        for line in START:
            desk.tell(line)
        return desk

    def test_what_is_no_line(self):
        desk = self.desk()
        log, steps = desk.log(), "; ".join(line[len("step "):] for line in START)
        wrong = NO_LINES + NO_STRINGS + tuple(f"places x_a={thing}" for thing in NO_INTEGERS)
        wrong += tuple(f"step part d a b {thing} 1" for thing in NO_INTEGERS)
        for line in wrong:
            with self.assertRaises(BadLine, msg=repr(line)[:80]) as caught:
                desk.tell(line)
            self.assertEqual(caught.exception.at, 0)
            self.assertEqual(desk.log(), log)
        with self.assertRaises(BadLine):
            desk.tell(line=None)
        self.assertEqual(desk.tell(line="steps"), steps)
        self.assertEqual(desk.log(), log + "steps\n")

    def test_each_line_with_more_or_less(self):
        desk = self.desk()
        log = desk.log()
        for line in (
            "step free d", "undo", "change part m b c 1 3", "holds same a b", "lines same a a", "truths same", "hangs a", f"places {VALUES}",
            "steps",
        ):
            for wrong in (
                line + " ", " " + line, line + "\n", "\n" + line, line + "\r", line + "\t", line.upper(), line + ".", line.replace(" ", "  "),
                line + " a1", line[1:], line + "\x7f", line + "\u2003",
            ):
                if wrong != line:
                    with self.assertRaises(BadLine, msg=repr(wrong)) as caught:
                        desk.tell(wrong)
                    self.assertEqual((caught.exception.at, desk.log()), (0, log))

    def test_an_empty_desk_stays_empty(self):
        desk = Desk()
        for line in NO_LINES:
            with self.assertRaises(BadLine):
                desk.tell(line)
        self.assertEqual((desk.log(), desk.tell("steps")), ("", ""))


class ReplayedTest(unittest.TestCase):
    def check_bad(self, log, at):
        with self.assertRaises(BadLine, msg=repr(log)[:100]) as caught:
            replayed(log)
        self.assertEqual(caught.exception.at, at, repr(log)[:100])

    def test_a_desk_that_goes_on_alike_and_by_itself(self):
        desk = Desk()
        for line in START + ("holds same a b", "step free a", "undo", "change slide m b c", "truths same", "lines same a b"):
            desk.tell(line)
        other = replayed(desk.log())
        self.assertIsInstance(other, Desk)
        self.assertEqual(other.log(), desk.log())
        kept = desk.log()
        self.assertEqual(other.tell("undo"), "ok")
        self.assertEqual(desk.log(), kept)
        self.assertEqual(desk.tell("steps"), "free a; free b; free c; slide m b c")
        self.assertEqual(other.tell("steps"), "free a; free b; free c")
        again = replayed(log=desk.log())
        for line in ("steps", "step over n a m", "hangs n", "holds on_line b c m", "undo", "undo", "steps"):
            self.assertEqual(again.tell(line), desk.tell(line))
        self.assertEqual(again.log(), desk.log())

    def test_empty_logs(self):
        desk = replayed("")
        self.assertEqual((desk.log(), desk.tell("steps")), ("", ""))

    def test_lines_that_raise(self):
        good = "".join(line + "\n" for line in START)
        for line in NO_LINES:
            if "\n" not in line and line:
                self.check_bad(line + "\n", 0)
                self.check_bad(good + line + "\n", 5)
                self.check_bad(good + line + "\nnothing\n" + good, 5)
                self.check_bad(good + line, 5)
        self.check_bad("\n", 0)
        self.check_bad(good + "\n", 5)
        self.check_bad("\n" + good, 0)
        self.check_bad(good.replace("\n", "\n\n"), 1)
        self.check_bad(good.replace("\n", "\r\n"), 0)
        self.check_bad(good.replace("\n", "\r"), 0)
        self.check_bad(good.replace("step free c\n", "step free c\x0bundo\n"), 2)
        self.check_bad(good.replace("step free c\n", "step free c\u2028undo\n"), 2)
        self.check_bad(good.replace("free b", "free B"), 1)

    def test_lines_that_are_refused_are_told_all_the_same(self):
        log = "undo\nstep free a\nstep free a\nholds same a q\nhangs q\nplaces\ntruths x\nlines same a b\n"
        desk = replayed(log)
        self.assertEqual((desk.log(), desk.tell("steps")), (log, "free a"))

    def test_a_last_line_without_a_line_feed(self):
        self.check_bad("steps", 0)
        self.check_bad("undo", 0)
        self.check_bad("step free a\nundo", 1)
        self.check_bad("step free a\nundo\n ", 2)
        self.check_bad("step free a\nnothing\nundo", 1)
        self.check_bad("x", 0)

    def test_what_is_no_string(self):
        for thing in NO_STRINGS + (["undo\n"], ("steps\n",)):
            self.check_bad(thing, 0)


class WholeProgramTest(unittest.TestCase):
    def test_an_answer_no_is_a_figure_in_which_the_claim_is_not_true(self):
        source = plain.source(242)
        for at in range(40):
            construction = some_construction(source, 3 + at % 4)
            claim = some_claim(source, sorted(LENGTHS)[at % 8], construction.points())
            desk = replayed("".join("step " + " ".join(map(str, step)) + "\n" for step in construction.steps()))
            word, *pairs = desk.tell("holds " + " ".join(claim)).split(" ")
            self.assertEqual(word, "yes" if holds(construction, claim) else "no")
            if word == "no":
                values = [(name, int(k)) for name, k in (pair.split("=") for pair in pairs)]
                self.assertIs(true_in(construction, claim, values), False)
                told = desk.tell("places " + " ".join(pairs)).split("; ")
                self.assertEqual([place.split(" ")[0] for place in told], list(construction.points()))


if __name__ == "__main__":
    unittest.main()
