"""Triples of tables: a triple (X, Y, W) stands for the point (X / W, Y / W).

No common divisors are taken out anywhere: the document tells the triples to the letter.
"""

from figurehold.steps import elders, new_unknowns
from figurehold.tables import minus, number, plus, scaled, times


def _difference(a, b, at):
    """ux (at 0) or uy (at 1) from a to b: their weights' product times the way."""
    return minus(times(b[at], a[2]), times(a[at], b[2]))


def placed(x, y):
    """The free point (x, y)."""
    return x, y, number(1)


def slid(a, b, t):
    """The point on the line through a and b at t times the way."""
    along = [plus(times(a[at], b[2]), times(t, _difference(a, b, at))) for at in range(2)]
    return along[0], along[1], times(a[2], b[2])


def parted(a, b, n, d):
    """The point at n / d of the way from a to b."""
    along = [plus(scaled(times(a[at], b[2]), d), scaled(_difference(a, b, at), n)) for at in range(2)]
    return along[0], along[1], scaled(times(a[2], b[2]), d)


def _moved(q, across, up, weight):
    """q moved by (across, up), both over the weight."""
    return (
        plus(times(q[0], weight), times(q[2], across)),
        plus(times(q[1], weight), times(q[2], up)),
        times(q[2], weight),
    )


def shifted(q, a, b):
    """q moved as from a to b."""
    return _moved(q, _difference(a, b, 0), _difference(a, b, 1), times(a[2], b[2]))


def turned(q, a, b):
    """q moved as from a to b, turned by a right angle to the left."""
    return _moved(q, scaled(_difference(a, b, 1), -1), _difference(a, b, 0), times(a[2], b[2]))


def beyond(q, c):
    """q mirrored at the point c."""
    across = [minus(scaled(times(c[at], q[2]), 2), times(q[at], c[2])) for at in range(2)]
    return across[0], across[1], times(c[2], q[2])


def foot(q, a, b):
    """The foot of q on the line through a and b."""
    ux = _difference(a, b, 0)
    uy = _difference(a, b, 1)
    square = plus(times(ux, ux), times(uy, uy))
    along = plus(times(_difference(a, q, 0), ux), times(_difference(a, q, 1), uy))
    weight = times(q[2], square)
    return (
        plus(times(a[0], weight), times(along, ux)),
        plus(times(a[1], weight), times(along, uy)),
        times(a[2], weight),
    )


def mirrored(q, a, b):
    """q mirrored in the line through a and b."""
    return beyond(q, foot(q, a, b))


def second(a, b, o):
    """The second point of the line through a and b on the circle around o through a."""
    return beyond(a, foot(o, a, b))


def crossed(one, other):
    """The line A * x + B * y + C * w = 0 through two points; likewise the point on two lines."""
    return (
        minus(times(one[1], other[2]), times(one[2], other[1])),
        minus(times(one[2], other[0]), times(one[0], other[2])),
        minus(times(one[0], other[1]), times(one[1], other[0])),
    )


def meet(a, b, c, d):
    """The meet of the lines through a and b, and through c and d."""
    return crossed(crossed(a, b), crossed(c, d))


def centre(a, b, c):
    """The centre of the circle through a, b and c."""
    m = parted(a, b, 1, 2)
    k = parted(a, c, 1, 2)
    return meet(m, turned(m, a, b), k, turned(k, a, c))


MAKERS = {
    "free": placed,
    "slide": slid,
    "part": parted,
    "shift": shifted,
    "turn": turned,
    "over": beyond,
    "mirror": mirrored,
    "foot": foot,
    "meet": meet,
    "second": second,
    "centre": centre,
}


def made(step, triples, unknowns):
    """The triple of a step's new point, by the triples of elder points and the tables of unknowns."""
    named = elders(step)
    found = [triples[name] for name in named]
    found = found + [unknowns[name] for name in new_unknowns(step)]
    found = found + list(step[2 + len(named):])
    maker = MAKERS[step[0]]
    return maker(*found)
