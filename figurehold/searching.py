"""Figures in whole numbers: the first one, by the greatest number, then as tuples."""

from figurehold.reckoning import reckoned
from figurehold.relations import said
from figurehold.rings import Integers
from figurehold.steps import new_unknowns


class Trial:
    """Tries figures of a construction in which a claim (if there is one) is not true."""

    def __init__(self, construction, claim):
        self.names = construction.unknowns()
        self.claim = claim
        # By the numbers of unknowns: the steps that can be made as soon as it is known.
        self.rows = [[] for _ in self.names]
        # The number of the unknown with which all points of the claim are known.
        self.decided = None
        at = -1
        for step in construction.steps():
            at = at + len(new_unknowns(step))
            self.rows[at].append(step)
            if claim is not None and step[1] in claim[1:]:
                self.decided = at
        self.fractions = {}
        self.triples = {}

    def goes_on(self, numbers):
        """Whether all that these first numbers decide is as it is looked for.

        All but the last one have been told ahead, one by one.
        """
        at = len(numbers) - 1
        self.fractions[self.names[at]] = (numbers[at], 1)
        for step in self.rows[at]:
            triple = reckoned(step, self.triples, self.fractions)
            if triple[2] == 0:
                return False
            self.triples[step[1]] = triple
        if at != self.decided:
            return True
        return any([part != 0 for part in said(Integers(), self.claim, self.triples)])


def first_values(construction, claim):
    """The first figure in whole numbers in which the claim, if it is not None, is not true.

    There must be one.
    """
    trial = Trial(construction, claim)
    most = 0
    found = _first(trial, [], most)
    while found is None:
        most = most + 1
        found = _first(trial, [], most)
    return tuple(zip(trial.names, found))


def _first(trial, ahead, most):
    """The first numbers that begin with those ahead, the greatest of all being the most, or None."""
    missing = len(trial.names) - len(ahead)
    if missing == 0:
        return ahead
    least = most if missing == 1 and most not in ahead else 0
    for k in range(least, most + 1):
        if trial.goes_on(ahead + [k]):
            found = _first(trial, ahead + [k], most)
            if found is not None:
                return found
    return None
