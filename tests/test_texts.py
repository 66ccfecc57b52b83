"""[23]: steps and claims as texts, and what is read of them."""

import copy
import unittest

from figurehold.constructions import built
from figurehold.errors import BadValue
from figurehold.steps import FORMS
from figurehold.texts import claim_text, read_claim, read_step, step_text
from tests import plain
from tests.test_claims import LENGTHS
from tests.test_constructions import GOOD
from tests.test_poly_texts import NO_STRINGS

STEPS = GOOD + (
    ("free", "free"), ("part", "m", "a", "b", -100, 100), ("part", "m", "a", "b", 0, 1), ("slide", "same", "part", "on"),
    ("part", "zzzz", "part", "part", 0, 0), ("part", "p", "p", "p", -999999999, 999999999), ("part", "p", "a", "b", 12, -5),
)
CLAIMS = tuple((word, *("abcdef"[:many])) for word, many in LENGTHS.items()) + (
    ("same", "same", "same"), ("on_line", "a", "a", "a"), ("parallel", "ab", "abc", "abcd", "z"), ("one_meet", *(["free"] * 6)),
)
# What is no name, and what is no integer, where these stand.
NO_NAMES = ("", "A", "aB", "abcde", "a1", "1", "0", "-1", "a_", "_", "x_a", "a.", "a-b", "a\n", "\na", "a\t", "\u00e9", "\u0430", "a\u0301", "a,")
NO_INTEGERS = (
    "", "a", "-", "--1", "+1", "-0", "00", "01", "007", "-01", "-00", "1.0", "1/2", "1e3", "1_000", "1 ", "0x1", "1000000000",
    "-1000000000", "12345678901", "9" * 5000, "\u0663", "\u00b2", "1\n", "\n1", "- 1", "1-", "True", "None", "n",
)


class TextsTest(unittest.TestCase):
    def check_bad(self, action, text):
        handed = copy.deepcopy(text)
        with self.assertRaises(BadValue, msg=repr(text)[:80]) as caught:
            action(text)
        self.assertEqual((caught.exception.at, text), (0, handed))

    def test_all_words_are_there(self):
        self.assertEqual({step[0] for step in STEPS}, set(FORMS))
        self.assertEqual({claim[0] for claim in CLAIMS}, set(LENGTHS))

    def test_texts(self):
        for step, text in (
            (("free", "p"), "free p"), (("part", "p", "a", "b", -7, 12), "part p a b -7 12"), (["over", "q", "a", "a"], "over q a a"),
            (("meet", "p", "a", "b", "b", "c"), "meet p a b b c"), (("part", "p", "a", "b", 0, 100), "part p a b 0 100"),
        ):
            self.assertEqual(step_text(step), text)
            self.assertEqual(step_text(step=list(step)), text)
            self.assertEqual(read_step(text), tuple(step))
        for claim, text in ((("same", "a", "b"), "same a b"), (["on_line", "a", "b", "zz"], "on_line a b zz")):
            self.assertEqual(claim_text(claim), text)
            self.assertEqual(claim_text(claim=list(claim)), text)
            self.assertEqual(read_claim(text), tuple(claim))

    def test_there_and_back(self):
        for things, write, read in ((STEPS, step_text, read_step), (CLAIMS, claim_text, read_claim)):
            for thing in things:
                text = " ".join(str(member) for member in thing)
                self.assertEqual(write(thing), text)
                found = read(text=text)
                self.assertEqual(found, thing)
                self.assertTrue(plain.is_tuples(found))
                self.assertEqual([type(member) for member in found], [type(member) for member in thing])
                self.assertEqual(write(found), text)
        construction = built(tuple(read_step(text) for text in ("free a", "free b", "part c a b 1 2")))
        self.assertEqual([step_text(step) for step in construction.steps()], ["free a", "free b", "part c a b 1 2"])

    def test_other_words(self):
        for things, read in ((STEPS, read_step), (CLAIMS, read_claim)):
            for thing in things:
                members = [str(member) for member in thing[1:]]
                for word in (
                    "", "Free", "FREE", "fre", "frees", "free_", "on line", "online", "On_line", "equal", "apart", "steps", "undo",
                    thing[0].upper(), thing[0] + "s", thing[0] + " ", " " + thing[0], thing[0] + "\n", "\u00e9", "p", "pp",
                ):
                    self.check_bad(read, " ".join([word] + members))
                self.check_bad(read, " ".join(members))
        for step in STEPS:
            self.check_bad(read_claim, step_text(step))
        for claim in CLAIMS:
            self.check_bad(read_step, claim_text(claim))

    def test_other_lengths(self):
        for things, read in ((STEPS, read_step), (CLAIMS, read_claim)):
            for thing in things:
                words = [str(member) for member in thing]
                for length in range(len(words)):
                    self.check_bad(read, " ".join(words[:length]))
                for more in ("a", "1", "q", ""):
                    self.check_bad(read, " ".join(words + [more]))

    def test_members_of_another_form(self):
        for things, read in ((STEPS, read_step), (CLAIMS, read_claim)):
            for thing in things:
                words = [str(member) for member in thing]
                for at in range(1, len(words)):
                    for wrong in NO_NAMES if isinstance(thing[at], str) else NO_INTEGERS:
                        self.check_bad(read, " ".join(words[:at] + [wrong] + words[at + 1:]))

    def test_blanks_and_line_feeds(self):
        for things, read in ((STEPS, read_step), (CLAIMS, read_claim)):
            for thing in things:
                text = " ".join(str(member) for member in thing)
                for wrong in (
                    " " + text, text + " ", text.replace(" ", "  ", 1), text.replace(" ", "\t"), text.replace(" ", "\n"), text + "\n",
                    "\n" + text, text + "\r", text.replace(" ", "\u00a0"), text.replace(" ", ","), text.replace(" ", ""), text + ";",
                    text.upper(), text.title(), f"({text})", f"{text} {text}", text + "\x00",
                ):
                    self.check_bad(read, wrong)

    def test_what_is_no_string(self):
        for read in (read_step, read_claim):
            for thing in NO_STRINGS + (("free", "p"), ["same", "a", "b"], ("free p",)):
                self.check_bad(read, thing)
            for text in ("", " ", "\n", "x" * 100000, " " * 1000):
                self.check_bad(read, text)

    def test_neither_points_nor_bounds_count(self):
        self.assertEqual(read_step("part p q r 101 0"), ("part", "p", "q", "r", 101, 0))
        self.assertEqual(read_step("over p p p"), ("over", "p", "p", "p"))
        self.assertEqual(read_step("part p q r -999999999 -1"), ("part", "p", "q", "r", -999999999, -1))
        self.assertEqual(read_claim("same q q"), ("same", "q", "q"))

    def test_a_changed_text_is_read_only_if_it_is_a_text_still(self):
        source = plain.source(231)
        for _ in range(4000):
            write, read, things = source.choice(((step_text, read_step, STEPS), (claim_text, read_claim, CLAIMS)))
            text = write(source.choice(things))
            at = source.randint(0, len(text))
            changed = text[:at] + source.choice([" ", "-", "0", "1", "a", "A", "\n", "_", ""]) + text[at + source.randint(0, 2):]
            try:
                found = read(changed)
            except BadValue:
                continue
            self.assertEqual(write(found), changed)


if __name__ == "__main__":
    unittest.main()
