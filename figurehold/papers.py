"""Papers: the polynomials of a claim that holds, and how its points are put out of them."""

from figurehold.deciding import holds
from figurehold.errors import NothingThere
from figurehold.outs import Lines, first_polys


def paper(construction, claim):
    """The paper of the claim: for each of its polynomials the lines down to 0."""
    if not holds(construction, claim):
        raise NothingThere("paper")
    told = []
    for p in first_polys(claim):
        lines = Lines(construction.steps(), p)
        while not lines.ended():
            told.append(lines.line)
            lines.go_on()
        told.append(lines.line)
    return "".join([line + "\n" for line in told])
