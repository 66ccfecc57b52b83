"""Figures in numbers."""

from figurehold.errors import BadValue, Broken
from figurehold.ratios import lowest
from figurehold.reckoning import figure, fractions_of
from figurehold.searching import first_values


def places(construction, values):
    """The pairs (point, (x, y)) of all points."""
    fractions = fractions_of(construction.unknowns(), values)
    if fractions is None:
        raise BadValue(1)
    triples = figure(construction, fractions)
    return tuple([(point, (lowest(x, w), lowest(y, w))) for point, (x, y, w) in triples.items()])


def is_figure(construction, values):
    """Whether they are values of a figure."""
    try:
        places(construction, values)
    except Broken:
        return False
    return True


def first_figure(construction):
    """The first figure in whole numbers."""
    return first_values((construction.steps(),), None)
