"""Constructions in numbers, by plain geometry over fractions (no triples)."""

from fractions import Fraction


class NoPoint(Exception):
    """The point of this name cannot be made."""


def minus(p, q):
    return (p[0] - q[0], p[1] - q[1])


def along(p, way, times=1):
    return (p[0] + times * way[0], p[1] + times * way[1])


def dot(u, v):
    return u[0] * v[0] + u[1] * v[1]


def cross(u, v):
    return u[0] * v[1] - u[1] * v[0]


def foot(q, a, b):
    way = minus(b, a)
    if dot(way, way) == 0:
        raise NoPoint
    return along(a, way, Fraction(dot(minus(q, a), way)) / dot(way, way))


def meet(a, b, c, d):
    one, other = minus(b, a), minus(d, c)
    if cross(one, other) == 0:
        raise NoPoint
    return along(a, one, Fraction(cross(minus(c, a), other)) / cross(one, other))


def centre(a, b, c):
    u, v = minus(b, a), minus(c, a)
    twice = 2 * cross(u, v)
    if twice == 0:
        raise NoPoint
    uu, vv = dot(u, u), dot(v, v)
    return along(a, ((v[1] * uu - u[1] * vv) / Fraction(twice), (u[0] * vv - v[0] * uu) / Fraction(twice)))


def place(step, places, known):
    """Where the step's point is, by the elder points' places and the values of unknowns."""
    word, name = step[:2]
    if word == "free":
        return (known[f"x_{name}"], known[f"y_{name}"])
    p = [places[member] for member in step[2:] if isinstance(member, str)]
    if word == "slide":
        return along(p[0], minus(p[1], p[0]), known[f"t_{name}"])
    if word == "part":
        return along(p[0], minus(p[1], p[0]), Fraction(step[4], step[5]))
    if word == "shift":
        return along(p[0], minus(p[2], p[1]))
    if word == "turn":
        way = minus(p[2], p[1])
        return along(p[0], (-way[1], way[0]))
    if word == "over":
        return along(p[0], minus(p[1], p[0]), 2)
    if word == "foot":
        return foot(*p)
    if word == "mirror":
        return along(p[0], minus(foot(*p), p[0]), 2)
    if word == "second":
        return along(p[0], minus(foot(p[2], p[0], p[1]), p[0]), 2)
    return {"meet": meet, "centre": centre}[word](*p)


def places(steps, known):
    """The places of all points; NoPoint if one cannot be made."""
    found = {}
    for step in steps:
        found[step[1]] = place(step, found, known)
    return found
