"""What hangs on what: points on points, and constructions with steps left out, changed or renamed."""

from figurehold.constructions import built
from figurehold.errors import BadPoint, BadStep, BadValue
from figurehold.kinds import is_name, is_sequence
from figurehold.steps import is_formed, needed


def hangs_on(construction, point):
    """The points on which this one hangs, itself too, in the sequence of steps."""
    return tuple([step[1] for step in _hanging(construction, (point,))])


def pruned(construction, points):
    """The construction with the steps of all points on which these hang."""
    if not is_sequence(points):
        raise BadValue(1)
    return built(_hanging(construction, points))


def changed(construction, step):
    """The construction with this step in place of the one of the same name."""
    if not is_formed(step):
        raise BadStep(0)
    if not construction.has(step[1]):
        raise BadStep(1)
    steps = construction.steps()
    at = construction.points().index(step[1])
    return built(steps[:at] + (step,) + steps[at + 1:])


def renamed(construction, pairs):
    """The construction with newer names for some of its points."""
    names = _newer_names(construction, pairs)
    if names is None:
        raise BadValue(1)
    return built([_with_names(step, names) for step in construction.steps()])


def _hanging(construction, points):
    """The steps of all points on which these hang."""
    for point in points:
        if not construction.has(point):
            raise BadPoint(point)
    return needed(construction.steps(), points)


def _newer_names(construction, pairs):
    """By all points: their names by the pairs, or None for what are no such pairs."""
    if not is_sequence(pairs):
        return None
    newer = {}
    for pair in pairs:
        if not is_sequence(pair) or len(pair) != 2 or not construction.has(pair[0]):
            return None
        if pair[0] in newer or not is_name(pair[1]):
            return None
        newer[pair[0]] = pair[1]
    names = {point: newer.get(point, point) for point in construction.points()}
    if len({name for name in names.values()}) < len(names):
        return None
    return names


def _with_names(step, names):
    """The step with these names for points; its word may be a point's name, too."""
    members = [names[member] if isinstance(member, str) else member for member in step[1:]]
    return (step[0],) + tuple(members)
