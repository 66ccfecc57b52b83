"""The triples of points, and what the steps of a construction ask for."""

from figurehold.errors import BadPoint

# By the words of steps: what is asked for, and which members of the step it names.
ASKED = {
    "foot": ("apart", 3, 5),
    "mirror": ("apart", 3, 5),
    "second": ("apart", 2, 4),
    "meet": ("crossing", 2, 6),
    "centre": ("corner", 2, 5),
}


def triple(construction, point):
    """The polynomials (X, Y, W) in the unknowns, the point being (X / W, Y / W)."""
    if not construction.has(point):
        raise BadPoint(point)
    fields = construction.fields()
    return tuple([fields.told(table) for table in construction.tables()[point]])


def conditions(construction):
    """What each step asks for, in the sequence of steps."""
    found = []
    for step in construction.steps():
        if step[0] in ASKED:
            word, start, end = ASKED[step[0]]
            found.append((word, step[1]) + step[start:end])
    return tuple(found)
