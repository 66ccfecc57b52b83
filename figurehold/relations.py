"""What claims say: what must be 0, out of the triples of the points that they name.

As in making, the triples may be reckoned in any ring.
"""

from figurehold.errors import BadClaim
from figurehold.kinds import is_sequence
from figurehold.making import crossed, difference

# How many points stand behind the word of a claim.
POINTS = {
    "same": 2,
    "on_line": 3,
    "parallel": 4,
    "perpendicular": 4,
    "equal_length": 4,
    "equal_area": 6,
    "on_circle": 4,
    "one_meet": 6,
}


def check_claim(construction, claim):
    """Raise BadClaim for what is no claim about points of the construction."""
    if not is_sequence(claim) or not claim or not isinstance(claim[0], str):
        raise BadClaim(0)
    if claim[0] not in POINTS or len(claim) != 1 + POINTS[claim[0]]:
        raise BadClaim(0)
    for at in range(1, len(claim)):
        if not construction.has(claim[at]):
            raise BadClaim(at)


def within(claim):
    """The claim with pairs (0, point) for its points, as where more constructions are looked at."""
    return (claim[0],) + tuple([(0, point) for point in claim[1:]])


def said(ring, claim, triples):
    """The tuple of what is 0 where the claim is true, by the triples of what it has for points."""
    relation = RELATIONS[claim[0]]
    named = [triples[point] for point in claim[1:]]
    return relation(ring, *named)


def same(ring, a, b):
    """That a and b are one point."""
    return difference(ring, b, a, 0), difference(ring, b, a, 1)


def on_line(ring, a, b, c):
    """That a, b and c are on one line."""
    return (_determinant(ring, a, b, c),)


def parallel(ring, a, b, c, d):
    """That the lines through a and b, and through c and d, run alike."""
    ux, uy = _way(ring, a, b)
    vx, vy = _way(ring, c, d)
    return (ring.minus(ring.times(ux, vy), ring.times(uy, vx)),)


def perpendicular(ring, a, b, c, d):
    """That the lines through a and b, and through c and d, stand on each other."""
    ux, uy = _way(ring, a, b)
    vx, vy = _way(ring, c, d)
    return (ring.plus(ring.times(ux, vx), ring.times(uy, vy)),)


def equal_length(ring, a, b, c, d):
    """That b is as far from a as d from c."""
    one = _product(ring, (_square(ring, a, b), c[2], c[2], d[2], d[2]))
    other = _product(ring, (_square(ring, c, d), a[2], a[2], b[2], b[2]))
    return (ring.minus(one, other),)


def equal_area(ring, a, b, c, d, e, f):
    """That the triangles a b c and d e f, turned the same way, are of one area."""
    one = _product(ring, (_determinant(ring, a, b, c), d[2], e[2], f[2]))
    other = _product(ring, (_determinant(ring, d, e, f), a[2], b[2], c[2]))
    return (ring.minus(one, other),)


def on_circle(ring, a, b, c, d):
    """That a, b, c and d are on one circle, or on one line."""
    rows = [_circle_row(ring, triple) for triple in (a, b, c, d)]
    upper = _minors(ring, rows[0], rows[1])
    lower = _minors(ring, rows[2], rows[3])
    # By the columns of the upper rows: those of the lower ones are the two others.
    total = ring.number(0)
    for at, sign in enumerate((1, -1, 1, 1, -1, 1)):
        total = ring.plus(total, ring.scaled(ring.times(upper[at], lower[5 - at]), sign))
    return (total,)


def one_meet(ring, a, b, c, d, e, f):
    """That the lines through a and b, c and d, e and f meet in one point or are parallel."""
    return (_determinant(ring, crossed(ring, a, b), crossed(ring, c, d), crossed(ring, e, f)),)


RELATIONS = {
    "same": same,
    "on_line": on_line,
    "parallel": parallel,
    "perpendicular": perpendicular,
    "equal_length": equal_length,
    "equal_area": equal_area,
    "on_circle": on_circle,
    "one_meet": one_meet,
}


def _way(ring, a, b):
    """ux and uy from a to b."""
    return difference(ring, a, b, 0), difference(ring, a, b, 1)


def _square(ring, a, b):
    """The square of the way from a to b, over both weights' squares."""
    ux, uy = _way(ring, a, b)
    return ring.plus(ring.times(ux, ux), ring.times(uy, uy))


def _product(ring, factors):
    """The product of all factors."""
    total = factors[0]
    for factor in factors[1:]:
        total = ring.times(total, factor)
    return total


def _determinant(ring, a, b, c):
    """The determinant of three triples."""
    line = crossed(ring, b, c)
    parts = [ring.times(a[at], line[at]) for at in range(3)]
    return ring.plus(ring.plus(parts[0], parts[1]), parts[2])


def _circle_row(ring, a):
    """X * X + Y * Y, X * W, Y * W and W * W."""
    square = ring.plus(ring.times(a[0], a[0]), ring.times(a[1], a[1]))
    return square, ring.times(a[0], a[2]), ring.times(a[1], a[2]), ring.times(a[2], a[2])


def _minors(ring, upper, lower):
    """The determinants of two rows of four, for each two columns, rising."""
    columns = [(one, other) for one in range(4) for other in range(one + 1, 4)]
    return [
        ring.minus(ring.times(upper[one], lower[other]), ring.times(upper[other], lower[one]))
        for one, other in columns
    ]
