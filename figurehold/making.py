"""Triples of points: (X, Y, W) stands for the point (X / W, Y / W).

They are reckoned in a ring: with tables, so as the document tells them to the letter
(no common divisors are taken out anywhere), or with the other things of rings.
"""

from figurehold.steps import elders, new_unknowns


def difference(ring, a, b, at):
    """ux (at 0) or uy (at 1) from a to b: their weights' product times the way."""
    return ring.minus(ring.times(b[at], a[2]), ring.times(a[at], b[2]))


def placed(ring, x, y):
    """The free point (x, y)."""
    return x, y, ring.number(1)


def slid(ring, a, b, t):
    """The point on the line through a and b at t times the way."""
    along = [
        ring.plus(ring.times(a[at], b[2]), ring.times(t, difference(ring, a, b, at)))
        for at in range(2)
    ]
    return along[0], along[1], ring.times(a[2], b[2])


def parted(ring, a, b, n, d):
    """The point at n / d of the way from a to b."""
    along = [
        ring.plus(ring.scaled(ring.times(a[at], b[2]), d), ring.scaled(difference(ring, a, b, at), n))
        for at in range(2)
    ]
    return along[0], along[1], ring.scaled(ring.times(a[2], b[2]), d)


def _moved(ring, q, across, up, weight):
    """q moved by (across, up), both over the weight."""
    return (
        ring.plus(ring.times(q[0], weight), ring.times(q[2], across)),
        ring.plus(ring.times(q[1], weight), ring.times(q[2], up)),
        ring.times(q[2], weight),
    )


def shifted(ring, q, a, b):
    """q moved as from a to b."""
    ux = difference(ring, a, b, 0)
    uy = difference(ring, a, b, 1)
    return _moved(ring, q, ux, uy, ring.times(a[2], b[2]))


def turned(ring, q, a, b):
    """q moved as from a to b, turned by a right angle to the left."""
    ux = difference(ring, a, b, 0)
    uy = difference(ring, a, b, 1)
    return _moved(ring, q, ring.scaled(uy, -1), ux, ring.times(a[2], b[2]))


def beyond(ring, q, c):
    """q mirrored at the point c."""
    across = [
        ring.minus(ring.scaled(ring.times(c[at], q[2]), 2), ring.times(q[at], c[2]))
        for at in range(2)
    ]
    return across[0], across[1], ring.times(c[2], q[2])


def foot(ring, q, a, b):
    """The foot of q on the line through a and b."""
    ux = difference(ring, a, b, 0)
    uy = difference(ring, a, b, 1)
    square = ring.plus(ring.times(ux, ux), ring.times(uy, uy))
    along = ring.plus(
        ring.times(difference(ring, a, q, 0), ux), ring.times(difference(ring, a, q, 1), uy)
    )
    weight = ring.times(q[2], square)
    return (
        ring.plus(ring.times(a[0], weight), ring.times(along, ux)),
        ring.plus(ring.times(a[1], weight), ring.times(along, uy)),
        ring.times(a[2], weight),
    )


def mirrored(ring, q, a, b):
    """q mirrored in the line through a and b."""
    return beyond(ring, q, foot(ring, q, a, b))


def second(ring, a, b, o):
    """The second point of the line through a and b on the circle around o through a."""
    return beyond(ring, a, foot(ring, o, a, b))


def crossed(ring, one, other):
    """The line A * x + B * y + C * w = 0 through two points; likewise the point on two lines."""
    return (
        ring.minus(ring.times(one[1], other[2]), ring.times(one[2], other[1])),
        ring.minus(ring.times(one[2], other[0]), ring.times(one[0], other[2])),
        ring.minus(ring.times(one[0], other[1]), ring.times(one[1], other[0])),
    )


def meet(ring, a, b, c, d):
    """The meet of the lines through a and b, and through c and d."""
    return crossed(ring, crossed(ring, a, b), crossed(ring, c, d))


def centre(ring, a, b, c):
    """The centre of the circle through a, b and c."""
    m = parted(ring, a, b, 1, 2)
    k = parted(ring, a, c, 1, 2)
    return meet(ring, m, turned(ring, m, a, b), k, turned(ring, k, a, c))


MAKERS = {
    "free": placed,
    "slide": slid,
    "part": parted,
    "shift": shifted,
    "turn": turned,
    "over": beyond,
    "mirror": mirrored,
    "foot": foot,
    "meet": meet,
    "second": second,
    "centre": centre,
}


def made(ring, step, triples, unknowns):
    """The triple of a step's new point, by the triples of elder points and what stands for unknowns."""
    named = elders(step)
    found = [triples[name] for name in named]
    found = found + [unknowns[name] for name in new_unknowns(step)]
    found = found + list(step[2 + len(named):])
    maker = MAKERS[step[0]]
    return maker(ring, *found)
