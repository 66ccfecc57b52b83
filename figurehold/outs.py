"""The lines of papers: polynomials in the variables X_p, Y_p and W_p of points p."""

from figurehold.fields import Fields
from figurehold.making import made
from figurehold.polys import poly_text
from figurehold.relations import said
from figurehold.replacing import degrees, put_table
from figurehold.rings import Tables
from figurehold.steps import elders, new_unknowns

COORDINATES = "XYW"
# Far above all exponents in one claim or one triple, written in such variables.
RADIX = 101


class Lines:
    """The lines of one polynomial of a claim, one at a time, from the claim line on."""

    def __init__(self, steps, p):
        self._waiting = list(steps)
        self._tell("claim", p)

    def _tell(self, words, p):
        """Let the line be the one of this polynomial."""
        self.p = p
        self.line = f"{words} {poly_text(p)}"
        present = degrees(p)
        while self._waiting and not _is_among(self._waiting[-1][1], present):
            self._waiting.pop()

    def ended(self):
        """Whether no variable of a point is in the line, so that it is the last one."""
        return not self._waiting

    def go_on(self):
        """Go on to the next line."""
        step = self._waiting.pop()
        self._tell(f"out {step[1]}", _put_out(step, self.p))


def first_polys(claim):
    """The polynomials of the claim, in the variables of its points."""
    points = sorted({point for point in claim[1:]})
    fields = Fields([name for point in points for name in _variables(point)], RADIX)
    triples = {point: _own_triple(point, fields) for point in points}
    return tuple([fields.told(table) for table in said(Tables(), claim, triples)])


def _put_out(step, p):
    """The polynomial with the step's triple in place of its point's variables."""
    table, fields = put_table(p, list(zip(_variables(step[1]), _triple(step))))
    return fields.told(table)


def _triple(step):
    """The triple of the step's point, in the variables of the points that it names."""
    named = sorted({point for point in elders(step)})
    unknowns = list(new_unknowns(step))
    fields = Fields([name for point in named for name in _variables(point)] + unknowns, RADIX)
    triples = {point: _own_triple(point, fields) for point in named}
    tables = {name: _single(name, fields) for name in unknowns}
    return [fields.told(table) for table in made(Tables(), step, triples, tables)]


def _variables(point):
    """The three variables of a point."""
    return [f"{letter}_{point}" for letter in COORDINATES]


def _is_among(point, present):
    """Whether a variable of the point is among those that are present."""
    return any([name in present for name in _variables(point)])


def _own_triple(point, fields):
    """The triple of a point, as tables, that stands as its three variables."""
    return tuple([_single(name, fields) for name in _variables(point)])


def _single(name, fields):
    """The table of a variable."""
    return {fields.key(((name, 1),)): 1}
