"""[19] and [20]: what hangs on what, and constructions that are pruned, changed and renamed."""

import copy
import unittest

from figurehold.constructions import Construction, built
from figurehold.deciding import holds
from figurehold.errors import BadPoint, BadStep, BadValue, Impossible, TooMany
from figurehold.hanging import changed, hangs_on, pruned, renamed
from figurehold.steps import FORMS
from figurehold.triples import triple
from tests import plain
from tests.test_claims import LENGTHS, some_claim
from tests.test_constructions import GOOD, NO_NAMES, NO_SEQUENCES, NO_WORDS
from tests.test_deciding import TRIANGLE, free
from tests.test_triples import NO_POINTS, some_construction, some_step

STEPS = TRIANGLE + (
    ("part", "m", "b", "c", 1, 2), ("slide", "d", "a", "m"), ("foot", "f", "d", "b", "c"), ("over", "e", "a", "b"),
    ("meet", "g", "a", "f", "d", "e"), ("turn", "z", "b", "b", "b"),
)


def by_hand(steps, point):
    """The names that a point's step names, and so on."""
    found, waiting = set(), [point]
    while waiting:
        name = waiting.pop()
        if name not in found:
            found.add(name)
            step = [step for step in steps if step[1] == name][0]
            waiting += [member for member in step[2:] if isinstance(member, str)]
    return tuple(step[1] for step in steps if step[1] in found)


class HangsOnTest(unittest.TestCase):
    def test_a_small_one(self):
        construction = built(STEPS)
        for point, expected in (
            ("a", "a"), ("m", "bcm"), ("d", "abcmd"), ("f", "abcmdf"), ("e", "abe"), ("g", "abcmdfeg"), ("z", "bz"),
        ):
            found = hangs_on(construction, point)
            self.assertIs(type(found), tuple)
            self.assertEqual(found, tuple(expected))
        self.assertEqual(hangs_on(construction=construction, point="m"), ("b", "c", "m"))
        self.assertEqual(construction, built(STEPS))

    def test_each_kind_of_step(self):
        for step in GOOD:
            self.assertEqual(hangs_on(built(TRIANGLE + (step,)), "p"), by_hand(TRIANGLE + (step,), "p"))

    def test_against_following_by_hand(self):
        source = plain.source(191)
        for _ in range(40):
            construction = some_construction(source, source.randint(3, 12))
            for point in construction.points():
                self.assertEqual(hangs_on(construction, point), by_hand(construction.steps(), point))

    def test_bad_points(self):
        for thing in NO_POINTS:
            handed = copy.deepcopy(thing)
            with self.assertRaises(BadPoint) as caught:
                hangs_on(built(STEPS), thing)
            self.assertEqual((caught.exception.name, thing), (handed, handed))
        with self.assertRaises(BadPoint):
            hangs_on(Construction(), "a")


class PrunedTest(unittest.TestCase):
    def check_pruned(self, construction, points):
        kept = construction.steps()
        names = {name for point in points for name in by_hand(kept, point)}
        expected = tuple(step for step in kept if step[1] in names)
        for told in (tuple(points), list(points)):
            found = pruned(construction, told)
            self.assertIsInstance(found, Construction)
            self.assertIsNot(found, construction)
            self.assertEqual(found.steps(), expected)
            self.assertEqual(found, built(expected))
            self.assertEqual(found.points(), built(expected).points())
            self.assertEqual(found.unknowns(), built(expected).unknowns())
            for point in points:
                self.assertEqual(triple(found, point), triple(construction, point))
        self.assertEqual(construction.steps(), kept)
        return found

    def test_small_ones(self):
        construction = built(STEPS)
        for points in ("", "a", "g", "mz", "zm", "gg", "efe", "abcmdfegz", "zgefdmcba", "ccc"):
            self.check_pruned(construction, points)
        self.assertEqual(pruned(construction, ()), Construction())
        self.assertEqual(pruned(construction, list("zgefdmcba")), construction)
        self.assertEqual(pruned(construction=construction, points=["m"]).steps(), TRIANGLE[1:] + STEPS[3:4])
        self.assertEqual(pruned(Construction(), []), Construction())

    def test_the_pruned_one_stands_by_itself(self):
        construction = built(STEPS)
        for points in ((), ("m",), construction.points()):
            found = pruned(construction, points)
            found.add(("slide", "q", "b", "c") if points else ("free", "q"))
            self.assertEqual(construction.steps(), STEPS)

    def test_claims_hold_just_if_they_do_in_the_pruned_one(self):
        source = plain.source(192)
        seen = set()
        for at in range(60):
            construction = some_construction(source, source.randint(3, 9))
            points = source.sample(construction.points(), source.randint(1, 3))
            found = self.check_pruned(construction, points)
            claim = some_claim(source, sorted(LENGTHS)[at % 8], points)
            seen.add(holds(construction, claim))
            self.assertIs(holds(found, claim), holds(construction, claim))
        self.assertEqual(seen, {True, False})

    def test_errors(self):
        construction = built(STEPS)
        for thing in NO_SEQUENCES + ("a", "abc", {}, {"a": 1}):
            with self.assertRaises(BadValue) as caught:
                pruned(construction, thing)
            self.assertEqual(caught.exception.at, 1)
        for thing in NO_POINTS:
            for points in ([thing], (thing, "q"), ["a", "m", thing, None, 7], ("z", thing, "a"), [thing, thing]):
                handed = copy.deepcopy(points)
                with self.assertRaises(BadPoint) as caught:
                    pruned(construction, points)
                self.assertEqual(caught.exception.name, thing)
                self.assertEqual((points, construction.steps()), (handed, STEPS))


class ChangedTest(unittest.TestCase):
    def check_changed(self, construction, step):
        kept = construction.steps()
        handed = copy.deepcopy(step)
        found = changed(construction, step)
        expected = tuple(tuple(step) if old[1] == step[1] else old for old in kept)
        self.assertEqual(found.steps(), expected)
        self.assertEqual(found, built(expected))
        self.assertEqual(found.unknowns(), built(expected).unknowns())
        self.assertTrue(plain.is_tuples(found.steps()))
        for point in construction.points():
            if step[1] not in by_hand(kept, point):
                self.assertEqual(triple(found, point), triple(construction, point))
            self.assertEqual(triple(found, point), triple(built(expected), point))
        self.assertEqual((construction.steps(), step), (kept, handed))
        return found

    def check_raises(self, construction, step, made, told):
        kept = construction.steps()
        handed = copy.deepcopy(step)
        with self.assertRaises(made, msg=repr(step)) as caught:
            changed(construction, step)
        self.assertIn(told, list(vars(caught.exception).values()), step)
        self.assertEqual((construction.steps(), step), (kept, handed))

    def test_a_step_of_each_kind(self):
        behind = (("over", "q", "a", "p"), ("part", "r", "b", "c", 1, 3), ("shift", "s", "q", "r", "p"))
        for old in GOOD:
            construction = built(TRIANGLE + (old,) + behind)
            for step in GOOD:
                self.check_changed(construction, step)
                self.check_changed(construction, list(step))

    def test_steps_of_one(self):
        construction = built(STEPS)
        for step in (
            ("turn", "c", "b", "b", "a"), ("part", "m", "a", "c", -1, 4), ("turn", "m", "b", "c", "a"), ("slide", "m", "b", "c"),
            ("part", "d", "a", "m", 1, 3), ("over", "f", "m", "d"), ("centre", "e", "a", "b", "d"), ("slide", "g", "a", "b"),
            ("slide", "z", "a", "g"), ("part", "z", "g", "f", 1, 1),
        ):
            self.check_changed(construction, step)
        for step in (("slide", "b", "a", "a"), ("part", "c", "b", "a", 2, 3)):
            self.check_raises(construction, step, Impossible, "g")

    def test_drawn_ones(self):
        source = plain.source(193)
        words = ("foot", "meet", "over", "part", "shift", "slide", "turn")
        seen = {"ok": 0, Impossible: 0, TooMany: 0}
        for _ in range(150):
            construction = some_construction(source, source.randint(3, 6), words)
            at = source.randint(1, len(construction.points()) - 1)
            step = some_step(source, source.choice(words + ("free",)), construction.points()[at], construction.points()[:at])
            steps = list(construction.steps())
            steps[at] = step
            try:
                built(steps)
            except (Impossible, TooMany) as error:
                self.check_raises(construction, step, type(error), list(vars(error).values())[0])
                seen[type(error)] += 1
            else:
                self.check_changed(construction, step)
                seen["ok"] += 1
        self.assertGreater(min(seen["ok"], seen[Impossible]), 10)

    def test_the_changed_one_stands_by_itself(self):
        construction = built(STEPS)
        found = changed(construction, ("part", "m", "b", "c", 1, 2))
        self.assertEqual(found, construction)
        self.assertIsNot(found, construction)
        found.add(("over", "q", "a", "b"))
        self.assertEqual(construction.steps(), STEPS)
        step = ["part", "m", "b", "c", 1, 3]
        found = changed(construction=construction, step=step)
        step[4] = 7
        self.assertEqual(found.steps()[3], ("part", "m", "b", "c", 1, 3))

    def test_no_step(self):
        construction = built(STEPS)
        for thing in NO_SEQUENCES + ((), [], ("m",), ("part",), {}):
            self.check_raises(construction, thing, BadStep, 0)
        for step in GOOD:
            step = (step[0], "g") + step[2:]
            for word in NO_WORDS + ("same", "on_line"):
                self.check_raises(construction, (word,) + step[1:], BadStep, 0)
            for length in range(1, len(step)):
                self.check_raises(construction, step[:length], BadStep, 0)
            for member in ("a", "q", 1, None):
                self.check_raises(construction, step + (member,), BadStep, 0)
                self.check_raises(construction, (step[0], "q") + step[2:] + (member,), BadStep, 0)

    def test_names_that_are_not_there(self):
        construction = built(STEPS)
        for step in GOOD:
            for name in NO_NAMES + ("p", "q", "ab", "x_a"):
                self.check_raises(construction, (step[0], name) + step[2:], BadStep, 1)
                self.check_raises(construction, [step[0], name] + ["?"] * len(step[2:]), BadStep, 1)
        self.check_raises(Construction(), ("free", "a"), BadStep, 1)

    def test_other_members(self):
        construction = built(STEPS)
        for step in GOOD:
            step = (step[0], "d") + step[2:]
            for at in range(2, len(step)):
                if isinstance(step[at], str):
                    # Itself, younger ones, none.
                    wrong = ("d", "f", "e", "g", "z", "q", "", None, 1, True, [], ("a",), ["a"])
                else:
                    wrong = (101, -101, None, True, "1", "a", 10 ** 30, (1,)) + ((0, -1) if at == 5 else ())
                for thing in wrong:
                    told = step[:at] + (thing,) + step[at + 1:]
                    self.check_raises(construction, told, BadStep, at)
                    self.check_raises(construction, list(told[:at + 1]) + ["?"] * (len(step) - at - 1), BadStep, at)
        self.check_raises(construction, ("slide", "a", "b", "c"), BadStep, 2)
        self.check_raises(construction, ("slide", "b", "a", "c"), BadStep, 3)
        self.check_raises(construction, ("part", "b", "a", "a", 1, 0), BadStep, 5)

    def test_impossible(self):
        construction = built(STEPS)
        self.check_raises(construction, ("foot", "d", "a", "b", "b"), Impossible, "d")
        self.check_raises(construction, ("part", "c", "b", "a", 0, 1), Impossible, "f")
        steps = free("abc") + (("foot", "d", "c", "a", "b"), ("foot", "e", "a", "c", "d"), ("meet", "f", "a", "b", "c", "e"))
        construction = built(steps)
        for step, name in (
            (("part", "b", "a", "a", 1, 2), "d"), (("part", "c", "a", "b", 3, 1), "e"), (("shift", "e", "c", "a", "b"), "f"),
            (("over", "e", "c", "c"), "f"), (("foot", "e", "a", "c", "c"), "e"), (("meet", "f", "a", "b", "b", "a"), "f"),
        ):
            self.check_raises(construction, step, Impossible, name)
            self.check_raises(construction, list(step), Impossible, name)

    def test_too_many_unknowns(self):
        steps = free("ab") + (("part", "c", "a", "b", 1, 2), ("slide", "d", "a", "b"), ("turn", "e", "a", "a", "b"))
        steps = steps + (("foot", "f", "e", "a", "c"), ("free", "g"), ("slide", "h", "a", "g"))
        construction = built(steps)
        self.assertEqual(len(construction.unknowns()), 8)
        for step in (
            ("slide", "c", "a", "b"), ("free", "c"), ("free", "d"), ("free", "e"), ("free", "h"), ("slide", "f", "a", "b"),
        ):
            self.check_raises(construction, step, TooMany, "unknowns")
        for step in (("slide", "d", "b", "a"), ("slide", "g", "b", "a"), ("slide", "h", "b", "b"), ("free", "b")):
            self.check_changed(construction, step)
        # f is made ahead of h, with which there are too many unknowns.
        self.check_raises(construction, ("slide", "c", "a", "a"), Impossible, "f")
        self.check_raises(built(steps[:5] + steps[6:]), ("slide", "c", "a", "a"), TooMany, "unknowns")
        # And the other way around.
        construction = built(steps[:5] + steps[6:] + steps[5:6])
        self.check_raises(construction, ("slide", "c", "a", "a"), TooMany, "unknowns")


class RenamedTest(unittest.TestCase):
    def check_renamed(self, construction, pairs):
        kept = construction.steps()
        names = {point: dict(pairs).get(point, point) for point in construction.points()}
        expected = tuple(
            (step[0],) + tuple(names[member] if isinstance(member, str) else member for member in step[1:]) for step in kept
        )
        for told in (pairs, tuple(tuple(pair) for pair in pairs), plain.as_lists(pairs)):
            found = renamed(construction, told)
            self.assertEqual(found.steps(), expected)
            self.assertEqual(found, built(expected))
            self.assertEqual(found.unknowns(), built(expected).unknowns())
            for point in found.points():
                self.assertEqual(triple(found, point), triple(built(expected), point))
        self.assertEqual(construction.steps(), kept)

    def test_small_ones(self):
        construction = built(STEPS)
        for pairs in (
            (), (("a", "q"),), (("a", "a"),), (("a", "b"), ("b", "a")), (("a", "b"), ("b", "c"), ("c", "a")),
            (("m", "free"), ("d", "same")), (("g", "m"), ("m", "g"), ("z", "zzzz")), (("b", "b"), ("a", "q")),
            tuple((point, point * 2) for point in construction.points()),
            tuple(zip(construction.points(), reversed(construction.points()))),
            tuple(zip(construction.points(), construction.points()[1:] + ("q",))),
        ):
            self.check_renamed(construction, pairs)
        self.assertEqual(renamed(construction, ()), construction)
        self.assertIsNot(renamed(construction, []), construction)
        self.assertEqual(renamed(construction=construction, pairs=[]), construction)
        self.assertEqual(renamed(Construction(), ()), Construction())

    def test_words_that_are_names(self):
        steps = (("free", "free"), ("free", "part"), ("part", "turn", "free", "part", 1, 2), ("turn", "over", "free", "turn", "part"))
        construction = built(steps)
        self.check_renamed(construction, (("free", "a"), ("turn", "free")))
        self.check_renamed(construction, (("part", "free"), ("free", "part")))
        self.assertEqual(renamed(construction, [("free", "a")]).steps()[0], ("free", "a"))

    def test_drawn_ones(self):
        source = plain.source(194)
        for _ in range(40):
            construction = some_construction(source, source.randint(2, 8))
            chosen = source.sample(construction.points(), source.randint(0, len(construction.points())))
            free_names = [name for name in ("aa", "bb", "cc", "zz", *"abcdefgh") if name not in construction.points() or name in chosen]
            newer = source.sample(free_names, len(chosen))
            self.check_renamed(construction, tuple(zip(chosen, newer)))

    def test_the_renamed_one_stands_by_itself(self):
        construction = built(STEPS)
        found = renamed(construction, [])
        found.add(("over", "q", "a", "b"))
        self.assertEqual(construction.steps(), STEPS)

    def test_bad_pairs(self):
        construction = built(STEPS)
        wrong = list(NO_SEQUENCES) + ["ab", {}, {"a": "q"}]
        wrong += [[pair] for pair in (None, True, 5, "aq", "", (), ("a",), ("a", "q", "r"), [], ["a", "q", "r"], {"a": 1, "q": 2})]
        wrong += [[(thing, "q")] for thing in NO_POINTS]
        wrong += [[("a", thing)] for thing in NO_NAMES]
        wrong += [
            [("a", "q"), ("a", "q")], [("a", "q"), ("a", "r")], [("a", "a"), ("a", "q")], [("a", "q"), ("b", "q")], [("a", "b")],
            [("a", "b"), ("b", "b")], [("a", "b"), ("b", "c")], [("a", "q"), None], [("a", "q"), ("q", "r")], [("a", "z")],
            [("z", "a")], [("a", "b"), ("b", "q"), ("c", "q")], ("a", "q"), ["a", "q"], [["a", "q"], "bc"],
        ]
        for pairs in wrong:
            handed = copy.deepcopy(pairs)
            with self.assertRaises(BadValue, msg=repr(pairs)) as caught:
                renamed(construction, pairs)
            self.assertEqual(caught.exception.at, 1)
            self.assertEqual((pairs, construction.steps()), (handed, STEPS))
        with self.assertRaises(BadValue):
            renamed(Construction(), [("a", "b")])


if __name__ == "__main__":
    unittest.main()
