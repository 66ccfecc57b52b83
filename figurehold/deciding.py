"""Whether claims are true in every figure."""

from figurehold.relations import check_claim, within
from figurehold.searching import first_values
from figurehold.vanishing import vanishes


def holds(construction, claim):
    """Whether the claim is true in every figure."""
    check_claim(construction, claim)
    return vanishes(construction, claim)


def counter(construction, claim):
    """The first figure in whole numbers in which the claim is not true, or None if it holds."""
    if holds(construction, claim):
        return None
    return first_values((construction.steps(),), within(claim))
