"""Constructions: rows of steps, each of which makes a point out of elder ones."""

from figurehold.errors import BadStep, BadValue, Impossible, TooMany
from figurehold.fields import Fields
from figurehold.kinds import is_name, is_sequence
from figurehold.making import made
from figurehold.rings import Tables
from figurehold.steps import is_formed, new_unknowns, wrong_behind_name

MOST_POINTS = 12
MOST_UNKNOWNS = 8
# Above all exponents of triples and of claims: a W stays the same where all points are
# moved alike, and such a polynomial of so high a degree has far more terms than are
# handed in.
RADIX = 20011


class Construction:
    """A row of steps, with the triples of the points that they make."""

    def __init__(self):
        self._steps = []
        self._unknowns = []
        self._triples = {}

    def add(self, step):
        """One step more."""
        step = self._checked(step)
        if len(self._steps) == MOST_POINTS:
            raise TooMany("points")
        unknowns = self._unknowns + list(new_unknowns(step))
        if len(unknowns) > MOST_UNKNOWNS:
            raise TooMany("unknowns")
        # Newer unknowns have higher digits, so that the tables of elder points stay right.
        fields = Fields(unknowns, RADIX)
        tables = {name: {fields.key(((name, 1),)): 1} for name in unknowns}
        triple = made(Tables(), step, self._triples, tables)
        if not triple[2]:
            raise Impossible(step[1])
        self._steps.append(step)
        self._unknowns = unknowns
        self._triples[step[1]] = triple

    def _checked(self, step):
        """The step as a tuple, if it is one that may be added."""
        if not is_formed(step):
            raise BadStep(0)
        if not is_name(step[1]) or step[1] in self._triples:
            raise BadStep(1)
        at = wrong_behind_name(step, self._triples)
        if at is not None:
            raise BadStep(at)
        return tuple(step)

    def steps(self):
        """The steps."""
        return tuple(self._steps)

    def points(self):
        """The points, in the sequence of steps."""
        return tuple(self._triples)

    def unknowns(self):
        """The unknowns, in the sequence of steps."""
        return tuple(self._unknowns)

    def has(self, point):
        """Whether it is the name of a point."""
        return isinstance(point, str) and point in self._triples

    def tables(self):
        """By the points: their triples as tables, in the fields of fields()."""
        return dict(self._triples)

    def fields(self):
        """The fields of the tables."""
        return Fields(self._unknowns, RADIX)

    def copy(self):
        """A construction of its own with the same steps."""
        twin = Construction()
        twin._steps = list(self._steps)
        twin._unknowns = list(self._unknowns)
        twin._triples = dict(self._triples)
        return twin

    def __eq__(self, other):
        return isinstance(other, Construction) and self._steps == other._steps


def built(steps):
    """The construction with these steps."""
    if not is_sequence(steps):
        raise BadValue(0)
    found = Construction()
    for step in steps:
        found.add(step)
    return found
