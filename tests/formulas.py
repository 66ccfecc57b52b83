"""The formulas of [8] and [12] to the letter, over whatever has + - *: polynomials, integers, fractions."""

from itertools import permutations

from tests import plain


class Poly:
    """A polynomial with signs, over tests.plain."""

    def __init__(self, terms):
        self.terms = terms

    def __add__(self, other):
        return Poly(plain.sum_of(self.terms, _poly(other).terms))

    def __sub__(self, other):
        return Poly(plain.sum_of(self.terms, _poly(other).terms, -1))

    def __mul__(self, other):
        return Poly(plain.product(self.terms, _poly(other).terms))

    __rmul__ = __mul__

    def __neg__(self):
        return self * -1


def _poly(thing):
    return thing if isinstance(thing, Poly) else Poly((((), thing),) if thing else ())


def variable(name):
    return Poly(((((name, 1),), 1),))


def way(a, b):
    return b[0] * a[2] - a[0] * b[2], b[1] * a[2] - a[1] * b[2]


def slide(a, b, t):
    ux, uy = way(a, b)
    return a[0] * b[2] + t * ux, a[1] * b[2] + t * uy, a[2] * b[2]


def part(a, b, n, d):
    ux, uy = way(a, b)
    return d * (a[0] * b[2]) + n * ux, d * (a[1] * b[2]) + n * uy, d * (a[2] * b[2])


def shift(q, a, b):
    ux, uy = way(a, b)
    ab = a[2] * b[2]
    return q[0] * ab + q[2] * ux, q[1] * ab + q[2] * uy, q[2] * ab


def turn(q, a, b):
    ux, uy = way(a, b)
    ab = a[2] * b[2]
    return q[0] * ab - q[2] * uy, q[1] * ab + q[2] * ux, q[2] * ab


def over(q, c):
    return 2 * (c[0] * q[2]) - q[0] * c[2], 2 * (c[1] * q[2]) - q[1] * c[2], c[2] * q[2]


def foot(q, a, b):
    ux, uy = way(a, b)
    m = ux * ux + uy * uy
    s = (q[0] * a[2] - a[0] * q[2]) * ux + (q[1] * a[2] - a[1] * q[2]) * uy
    return a[0] * q[2] * m + s * ux, a[1] * q[2] * m + s * uy, a[2] * q[2] * m


def line(a, b):
    return a[1] * b[2] - b[1] * a[2], a[2] * b[0] - b[2] * a[0], a[0] * b[1] - b[0] * a[1]


def meet(a, b, c, d):
    (A, B, C), (D, E, F) = line(a, b), line(c, d)
    return B * F - C * E, C * D - A * F, A * E - B * D


def centre(a, b, c):
    m, k = part(a, b, 1, 2), part(a, c, 1, 2)
    return meet(m, turn(m, a, b), k, turn(k, a, c))


MAKERS = {
    "slide": slide, "part": part, "shift": shift, "turn": turn, "over": over, "foot": foot, "meet": meet,
    "mirror": lambda q, a, b: over(q, foot(q, a, b)), "second": lambda a, b, o: over(a, foot(o, a, b)),
    "centre": centre,
}


def triple_of(step, found, unknowns=None):
    """The triple of a step's point by those of elder points, in polynomials or of these numbers for the unknowns."""
    word, name = step[:2]
    given = {
        letter: variable(f"{letter}_{name}") if unknowns is None else unknowns.get(f"{letter}_{name}")
        for letter in "txy"
    }
    if word == "free":
        return given["x"], given["y"], Poly((((), 1),)) if unknowns is None else 1
    members = [found[member] if isinstance(member, str) else member for member in step[2:]]
    return MAKERS[word](*members, *([given["t"]] if word == "slide" else []))


def triples(steps, unknowns=None):
    """By the points: their triples, in polynomials or of these numbers for the unknowns."""
    found = {}
    for step in steps:
        found[step[1]] = triple_of(step, found, unknowns)
    return found


def determinant(rows):
    """By the permutations of columns."""
    total = 0
    for columns in permutations(range(len(rows))):
        turned = sum(columns[i] > columns[j] for j in range(len(rows)) for i in range(j))
        term = (-1) ** turned
        for row, column in zip(rows, columns):
            term = row[column] * term
        total = term + total
    return total


def on_line(a, b, c):
    return (
        a[0] * b[1] * c[2] + a[1] * b[2] * c[0] + a[2] * b[0] * c[1]
        - a[2] * b[1] * c[0] - a[0] * b[2] * c[1] - a[1] * b[0] * c[2]
    )


def said(word, p):
    """The polynomials (or numbers) of a claim of these triples."""
    if word == "same":
        a, b = p
        return a[0] * b[2] - b[0] * a[2], a[1] * b[2] - b[1] * a[2]
    if word == "on_line":
        return (on_line(*p),)
    if word == "on_circle":
        return (determinant([(q[0] * q[0] + q[1] * q[1], q[0] * q[2], q[1] * q[2], q[2] * q[2]) for q in p]),)
    if word == "one_meet":
        return (determinant([line(p[0], p[1]), line(p[2], p[3]), line(p[4], p[5])]),)
    if word == "equal_area":
        a, b, c, d, e, f = p
        return (on_line(a, b, c) * (d[2] * e[2] * f[2]) - on_line(d, e, f) * (a[2] * b[2] * c[2]),)
    a, b, c, d = p
    (ux, uy), (vx, vy) = way(a, b), way(c, d)
    if word == "parallel":
        return (ux * vy - uy * vx,)
    if word == "perpendicular":
        return (ux * vx + uy * vy,)
    cd, ab = c[2] * d[2], a[2] * b[2]
    return ((ux * ux + uy * uy) * (cd * cd) - (vx * vx + vy * vy) * (ab * ab),)


def claim_polys(steps, claim):
    found = triples(steps)
    return tuple(_poly(p).terms for p in said(claim[0], [found[point] for point in claim[1:]]))


def own_triples(points):
    """By the points: their variables X_p, Y_p, W_p."""
    return {point: tuple(variable(f"{letter}_{point}") for letter in "XYW") for point in points}


def paper_rows(steps, claim):
    """For each polynomial of the claim: the pairs (what the line begins with, polynomial) of [14]."""
    own = own_triples([step[1] for step in steps])
    found = []
    for p in said(claim[0], [own[point] for point in claim[1:]]):
        terms = _poly(p).terms
        rows = [("claim", terms)]
        for step in reversed(steps):
            names = [f"{letter}_{step[1]}" for letter in "XYW"]
            if any(name in names for monomial, _ in terms for name, _ in monomial):
                triple = triple_of(step, own)
                terms = plain.put_in(terms, [(name, part.terms) for name, part in zip(names, triple)])
                rows.append((f"out {step[1]}", terms))
        found.append(rows)
    return found


def paper_lines(steps, claim):
    """For each polynomial of the claim: its lines, and whether the last one says 0."""
    found = []
    for rows in paper_rows(steps, claim):
        found.append(([f"{words} {plain.text(terms)}\n" for words, terms in rows], not rows[-1][1]))
    return found
