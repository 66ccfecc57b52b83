"""A desk: lines build a construction, step by step, and ask what holds of it."""

from figurehold.constructions import Construction, built
from figurehold.deciding import counter
from figurehold.errors import (
    BadClaim,
    BadLine,
    BadPoint,
    BadStep,
    BadValue,
    Broken,
    Impossible,
    NothingThere,
    TooMany,
)
from figurehold.figures import places
from figurehold.hanging import changed, hangs_on
from figurehold.kinds import LETTERS, is_variable, read_integer
from figurehold.papers import paper
from figurehold.texts import MOST_FIGURES, claim_text, read_claim, read_step, step_text
from figurehold.truths import truths


def _with_step(construction, step):
    """The construction with one step more."""
    more = construction.copy()
    more.add(step)
    return more


def _without_step(construction, _):
    """The construction without its last step."""
    steps = construction.steps()
    if not steps:
        raise NothingThere("undo")
    return built(steps[:-1])


def _with_change(construction, step):
    """The construction with another step of this name."""
    return changed(construction, step)


def _whether_holds(construction, claim):
    """Whether the claim holds; if not, the first figure that breaks it."""
    found = counter(construction, claim)
    if found is None:
        return "yes"
    return " ".join(["no"] + [f"{unknown}={number}" for unknown, number in found])


def _how_many_lines(construction, claim):
    """How many lines the paper of the claim has."""
    return str(paper(construction, claim).count("\n"))


def _all_truths(construction, kind):
    """All claims of this kind that hold."""
    return "; ".join([claim_text(claim) for claim in truths(construction, kind)])


def _what_hangs(construction, point):
    """The points on which this one hangs."""
    return " ".join(hangs_on(construction, point))


def _all_places(construction, values):
    """The places of all points."""
    found = places(construction, values)
    return "; ".join([f"{point} {_fraction_text(x)} {_fraction_text(y)}" for point, (x, y) in found])


def _all_steps(construction, _):
    """All steps."""
    return "; ".join([step_text(step) for step in construction.steps()])


# By the first words of lines: what makes another construction, and what just answers.
CHANGES = {"step": _with_step, "undo": _without_step, "change": _with_change}
ANSWERS = {
    "holds": _whether_holds,
    "lines": _how_many_lines,
    "truths": _all_truths,
    "hangs": _what_hangs,
    "places": _all_places,
    "steps": _all_steps,
}


class Desk:
    """A construction, and the lines that were told."""

    def __init__(self):
        self._construction = Construction()
        self._lines = []

    def tell(self, line):
        """The answer to a line, after it was done."""
        word, told = _parsed(line)
        answer = self._answer(word, told)
        self._lines.append(line + "\n")
        return answer

    def log(self):
        """All lines that were answered."""
        return "".join(self._lines)

    def _answer(self, word, told):
        """The answer to a parsed line, also where it is refused."""
        try:
            return self._done(word, told)
        except BadValue:
            return "no BadValue"
        except BadStep:
            return "no BadStep"
        except BadClaim:
            return "no BadClaim"
        except BadPoint:
            return "no BadPoint"
        except Impossible:
            return "no Impossible"
        except Broken:
            return "no Broken"
        except TooMany:
            return "no TooMany"
        except NothingThere:
            return "no NothingThere"

    def _done(self, word, told):
        """Do what a parsed line says."""
        if word in CHANGES:
            change = CHANGES[word]
            self._construction = change(self._construction, told)
            return "ok"
        answer = ANSWERS[word]
        return answer(self._construction, told)


def replayed(log):
    """A desk on which the lines of the log were told."""
    if not isinstance(log, str):
        raise BadLine(0)
    lines = log.split("\n")
    desk = Desk()
    for at, line in enumerate(lines[:-1]):
        try:
            desk.tell(line)
        except BadLine:
            raise BadLine(at) from None
    if lines[-1] != "":
        raise BadLine(len(lines) - 1)
    return desk


def _parsed(line):
    """The first word of a line and what it is told of."""
    if not isinstance(line, str):
        raise BadLine(0)
    if line in ("undo", "steps", "places"):
        return line, ()
    word, _, rest = line.partition(" ")
    told = _argument(word, rest)
    if told is None:
        raise BadLine(0)
    return word, told


def _argument(word, rest):
    """What stands behind the first word, or None if it may not stand there."""
    try:
        if word in ("step", "change"):
            return read_step(rest)
        if word in ("holds", "lines"):
            return read_claim(rest)
    except BadValue:
        return None
    if word == "truths" and _is_of(rest, LETTERS + "_"):
        return rest
    if word == "hangs" and _is_of(rest, LETTERS):
        return rest
    return _read_values(rest.split(" ")) if word == "places" else None


def _is_of(text, signs):
    """Whether it has at least one sign, and none but these."""
    return text != "" and all([sign in signs for sign in text])


def _read_values(words):
    """The pairs of unknowns and numbers that the words tell, or None."""
    pairs = []
    for word in words:
        unknown, _, number = word.partition("=")
        worth = read_integer(number, MOST_FIGURES)
        if not is_variable(unknown) or unknown[0] not in LETTERS or worth is None:
            return None
        pairs.append((unknown, worth))
    return tuple(pairs)


def _fraction_text(fraction):
    """The fraction as N, or as N/D."""
    n, d = fraction
    return str(n) if d == 1 else f"{n}/{d}"
