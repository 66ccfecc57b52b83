"""Figures in whole numbers: the first one, by the greatest number, then as tuples."""

from figurehold.reckoning import reckoned
from figurehold.relations import said
from figurehold.rings import Integers
from figurehold.steps import new_unknowns


class Trial:
    """Tries figures of constructions in which a claim (if there is one) is not true.

    The lots are the steps of constructions over the same unknowns; the claim is of a word
    and pairs (number of the lot, point).
    """

    def __init__(self, lots, claim):
        self.names = [name for step in lots[0] for name in new_unknowns(step)]
        self.claim = claim
        # By the numbers of unknowns: the steps, with the numbers of their lots, that can be
        # made as soon as it is known.
        self.rows = [[] for _ in self.names]
        # The number of the unknown with which all points of the claim are known.
        self.decided = None
        for lot, steps in enumerate(lots):
            self._take(lot, steps)
        self.fractions = {}
        # By the numbers of lots, and then by points; and by pairs of both.
        self.places = [{} for _ in lots]
        self.triples = {}

    def _take(self, lot, steps):
        """Tell with which unknowns these steps can be made."""
        at = -1
        for step in steps:
            at = at + len(new_unknowns(step))
            self.rows[at].append((lot, step))
            if self.claim is not None and (lot, step[1]) in self.claim[1:]:
                self.decided = at if self.decided is None else max(at, self.decided)

    def goes_on(self, numbers):
        """Whether all that these first numbers decide is as it is looked for.

        All but the last one have been told ahead, one by one.
        """
        at = len(numbers) - 1
        self.fractions[self.names[at]] = (numbers[at], 1)
        for lot, step in self.rows[at]:
            triple = reckoned(step, self.places[lot], self.fractions)
            if triple[2] == 0:
                return False
            self.places[lot][step[1]] = triple
            self.triples[(lot, step[1])] = triple
        if at != self.decided:
            return True
        return any([part != 0 for part in said(Integers(), self.claim, self.triples)])


def first_values(lots, claim):
    """The first figure in whole numbers in which the claim, if it is not None, is not true.

    It is a figure of all constructions; there must be one.
    """
    trial = Trial(lots, claim)
    most = 0
    found = _first(trial, [], most)
    while found is None:
        most = most + 1
        found = _first(trial, [], most)
    return tuple(zip(trial.names, found))


def _first(trial, ahead, most):
    """The first numbers that begin with those ahead, the greatest of all being the most, or None."""
    missing = len(trial.names) - len(ahead)
    if missing == 0:
        return ahead
    least = most if missing == 1 and most not in ahead else 0
    for k in range(least, most + 1):
        if trial.goes_on(ahead + [k]):
            found = _first(trial, ahead + [k], most)
            if found is not None:
                return found
    return None
