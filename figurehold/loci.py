"""Where a point runs while one unknown changes, and what lies on the curves that are told."""

from math import lcm

from figurehold.errors import BadPoint, BadValue, Broken
from figurehold.kinds import is_integer, is_sequence
from figurehold.linear import Rows, lowered
from figurehold.polys import value
from figurehold.ratios import is_fraction, lowest
from figurehold.reckoning import fractions_of
from figurehold.triples import triple

# By the words of curves: how many integers tell one, and how many of the first ones are not all 0.
CURVES = {"line": (3, 2), "conic": (6, 3)}


def locus(construction, values, unknown, point):
    """The point, line or conic on which all places of the point are, or None."""
    others = list(construction.unknowns())
    if unknown not in others:
        raise BadValue(2)
    others.remove(unknown)
    fractions = fractions_of(others, values)
    if fractions is None:
        raise BadValue(1)
    if not construction.has(point):
        raise BadPoint(point)
    known = list(fractions.items())
    fields = construction.fields()
    for name, tables in construction.tables().items():
        if not _in_one(fields.told(tables[2]), known, unknown):
            raise Broken(name)
    return _curve([_in_one(p, known, unknown) for p in triple(construction, point)])


def on_curve(curve, place):
    """Whether the place lies on the line or the conic, or is the point."""
    if not _is_curve(curve):
        raise BadValue(0)
    if not _is_place(place):
        raise BadValue(1)
    (xn, xd), (yn, yd) = place
    word, told = curve
    if word == "point":
        return [list(fraction) for fraction in told] == [[xn, xd], [yn, yd]]
    triple_there = (xn * yd, yn * xd, xd * yd)
    row = triple_there if word == "line" else _products(triple_there)
    return sum([k * part for k, part in zip(told, row)]) == 0


def _in_one(p, known, unknown):
    """By exponents of the unknown: the coefficients that are not 0, all others being known."""
    groups = {}
    for monomial, many in p:
        rest = tuple([pair for pair in monomial if pair[0] != unknown])
        groups.setdefault(dict(monomial).get(unknown, 0), []).append((rest, many))
    found = {}
    for exponent, terms in groups.items():
        fraction = value(terms, known)
        if fraction[0] != 0:
            found[exponent] = fraction
    return found


def _curve(parts):
    """The curve on which (X / W, Y / W) runs, by the parts X, Y and W in the unknown."""
    parts = _in_integers(parts)
    degree = max([exponent for part in parts for exponent in part])
    # An equation of so low a degree in the unknown holds always, if it holds at so many
    # numbers; for those of conics the degree is twice as high.
    triples = [lowered([_at(part, number) for part in parts]) for number in range(2 * degree + 1)]
    rows = Rows(3)
    for row in triples[:degree + 1]:
        rows.add(row)
    if rows.rank() == 1:
        return "point", _place(rows.first())
    if rows.rank() == 2:
        return "line", tuple(rows.relation())
    rows = Rows(6)
    for row in triples:
        rows.add(_products(row))
    if rows.rank() == 5:
        return "conic", tuple(rows.relation())
    return None


def _in_integers(parts):
    """The parts times one number above 0, their coefficients being integers then."""
    whole = 1
    for part in parts:
        for _, d in part.values():
            whole = lcm(whole, d)
    return [{exponent: n * (whole // d) for exponent, (n, d) in part.items()} for part in parts]


def _at(part, number):
    """The value of a part, the unknown being this number."""
    total = 0
    for exponent in range(max(part, default=0), -1, -1):
        total = total * number + part.get(exponent, 0)
    return total


def _place(row):
    """The place X / W, Y / W of three integers."""
    x, y, w = row if row[2] > 0 else [-k for k in row]
    return lowest(x, w), lowest(y, w)


def _products(row):
    """The products of each two of X, Y and W, as conics have them."""
    x, y, w = row
    return [x * x, x * y, y * y, x * w, y * w, w * w]


def _is_place(thing):
    """Whether it is a pair of fractions."""
    return is_sequence(thing) and len(thing) == 2 and is_fraction(thing[0]) and is_fraction(thing[1])


def _is_curve(thing):
    """Whether it is a point, a line or a conic as they are told."""
    if not is_sequence(thing) or len(thing) != 2 or not isinstance(thing[0], str):
        return False
    word, told = thing
    if word == "point":
        return _is_place(told)
    if word not in CURVES or not is_sequence(told) or not all([is_integer(k) for k in told]):
        return False
    many, leading = CURVES[word]
    if len(told) != many or all([k == 0 for k in told[:leading]]):
        return False
    return lowered(told) == list(told)
