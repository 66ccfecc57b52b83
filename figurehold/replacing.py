"""Polynomials put in place of variables, however large the outcome is."""

from figurehold.fields import Fields
from figurehold.tables import plus, times


def degrees(p):
    """By the variables of p: the greatest exponent of each."""
    found = {}
    for monomial, _ in p:
        for name, exponent in monomial:
            found[name] = max(exponent, found.get(name, 0))
    return found


def greatest_exponent(p):
    """The greatest exponent in p, 0 if there is none."""
    return max(list(degrees(p).values()), default=0)


def roomy_fields(polys, greatest):
    """Fields for all variables of the polynomials, in which exponents up to the greatest find room."""
    names = sorted({name for p in polys for name in degrees(p)})
    # By their last letters, so that those of p and of q are mixed: times_at_most then stops sooner.
    names = sorted(names, key=lambda name: name[::-1])
    return Fields(names, (greatest + 1) | 1)


def put_table(p, pairs):
    """p with the variables of the pairs replaced by their polynomials: a table and its fields."""
    present = degrees(p)
    others = {name: other for name, other in pairs if name in present}
    kept = [((pair,), 1) for monomial, _ in p for pair in monomial if pair[0] not in others]
    # No exponent of the outcome passes this, whatever the sequence of products is.
    highest = max([_whole_degree(monomial) for monomial, _ in p], default=0)
    steepest = max([greatest_exponent(other) for other in others.values()], default=0)
    fields = roomy_fields([kept] + list(others.values()), highest * max(1, steepest))
    tables = {name: fields.packed(other) for name, other in others.items()}
    return _replaced(_split(p, others, fields), tables), fields


def _whole_degree(monomial):
    """The sum of the exponents of a monomial."""
    return sum([exponent for _, exponent in monomial])


def _split(p, others, fields):
    """By the replaced part of the monomials: the table of what stands beside it."""
    groups = {}
    for monomial, many in p:
        replaced = tuple([(name, exponent) for name, exponent in monomial if name in others])
        key = fields.key([pair for pair in monomial if pair[0] not in others])
        groups.setdefault(replaced, {})[key] = many
    return groups


def _replaced(groups, tables):
    """The sum of all groups, the variables of their monomials replaced by their tables."""
    for name in sorted(tables, reverse=True):
        # From the last variable to the first one, so that each stands at the end in its turn.
        ending = {}
        for monomial in list(groups):
            if monomial and monomial[-1][0] == name:
                ending.setdefault(monomial[:-1], {})[monomial[-1][1]] = groups.pop(monomial)
        for ahead, by_exponents in ending.items():
            groups[ahead] = plus(groups.get(ahead, {}), _nested(by_exponents, tables[name]))
    return groups.get((), {})


def _nested(by_exponents, base):
    """The sum of the tables, each times the base to the power of its exponent (all from 1 on)."""
    total = {}
    for exponent in range(max(by_exponents), 0, -1):
        total = times(plus(total, by_exponents.get(exponent, {})), base)
    return total
