"""Claims about points, and what they say in polynomials and in numbers."""

from figurehold.errors import BadValue
from figurehold.reckoning import figure, fractions_of
from figurehold.relations import check_claim, said
from figurehold.rings import Integers, Tables
from figurehold.vanishing import vanishes


def claim_polys(construction, claim):
    """The polynomials of the claim."""
    check_claim(construction, claim)
    if vanishes(construction, claim):
        # What falls away in the end may be very large on the way.
        return ((), ()) if claim[0] == "same" else ((),)
    fields = construction.fields()
    return tuple([fields.told(table) for table in said(Tables(), claim, construction.tables())])


def true_in(construction, claim, values):
    """Whether the claim is true in the figure with these values."""
    check_claim(construction, claim)
    fractions = fractions_of(construction.unknowns(), values)
    if fractions is None:
        raise BadValue(2)
    triples = figure(construction, fractions)
    return all([part == 0 for part in said(Integers(), claim, triples)])
