"""All claims of a kind that hold."""

from itertools import combinations

from figurehold.errors import BadValue, TooMany
from figurehold.relations import within
from figurehold.vanishing import zero_claims

MOST_POINTS = 8
# How many unlike points the claims of a kind have, or how many unlike pairs.
POINTS = {"same": 2, "on_line": 3, "on_circle": 4}
PAIRS = {"parallel": 2, "perpendicular": 2, "equal_length": 2}


def truths(construction, kind):
    """All claims of this kind that hold, in the sequence of their points' numbers."""
    if not isinstance(kind, str) or (kind not in POINTS and kind not in PAIRS):
        raise BadValue(1)
    points = list(construction.points())
    if len(points) > MOST_POINTS:
        raise TooMany("points")
    if kind in POINTS:
        chosen = _chosen(points, POINTS[kind])
    else:
        chosen = [one + other for one, other in _chosen(_chosen(points, 2), PAIRS[kind])]
    asked = [within((kind,) + members) for members in chosen]
    found = zero_claims((construction.steps(),), asked)
    return tuple([(kind,) + tuple([point for _, point in claim[1:]]) for claim in found])


def families(construction):
    """The lots of points that are the same in every figure, told by their first points."""
    heads = {}
    for _, elder, newer in truths(construction, "same"):
        # The first one told of each newer point is the first point of its lot.
        heads.setdefault(newer, elder)
    lots = {}
    for point in construction.points():
        lots.setdefault(heads.get(point, point), []).append(point)
    return tuple([tuple(lot) for lot in lots.values()])


def _chosen(members, many):
    """All choices of so many of the members, in their sequence."""
    return [choice for choice in combinations(members, many)]
