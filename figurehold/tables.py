"""Polynomials as tables: dicts from keys to coefficients that are not 0.

A key holds the exponents of all variables in one integer, each as a digit of its
own, so that keys are added where monomials are multiplied. The key 0 is the empty
monomial, whatever the radix is. No table that is handed in is changed, and nothing
is limited here: what is on the way may be larger than what comes out.
"""

# So many rows are multiplied between two looks at how many terms there surely are.
ROWS_BETWEEN = 64


def number(k):
    """The table of an integer."""
    return {0: k} if k != 0 else {}


def scaled(p, k):
    """p times the integer k."""
    if k == 0:
        return {}
    return {key: many * k for key, many in p.items()}


def plus(p, q):
    """The sum of two tables (whatever their keys are)."""
    out = {key: p[key] for key in p}
    for key, many in q.items():
        both = out.get(key, 0) + many
        if both != 0:
            out[key] = both
        else:
            del out[key]
    return out


def minus(p, q):
    """p less q (whatever their keys are)."""
    return plus(p, scaled(q, -1))


def times(p, q):
    """The product of two tables."""
    if len(p) > len(q):
        return times(q, p)
    out = {}
    columns = list(q.items())
    for key, many in p.items():
        _add_row(out, key, many, columns)
    return {key: many for key, many in out.items() if many != 0}


def times_at_most(p, q, most):
    """The product of two tables; None may come in place of one of more than so many terms."""
    out = {}
    rows = sorted(p.items())
    columns = sorted(q.items())
    for at, (key, many) in enumerate(rows):
        if at > 0 and len(out) > most and at % ROWS_BETWEEN == 0:
            # No later row adds to a key below its own first one.
            if _count_below(out, key + columns[0][0]) > most:
                return None
        _add_row(out, key, many, columns)
    return {key: many for key, many in out.items() if many != 0}


def _add_row(out, key, many, columns):
    """Add one term times all terms of the columns to the table out."""
    for other, much in columns:
        both = key + other
        out[both] = out.get(both, 0) + many * much


def _count_below(table, bound):
    """How many keys below the bound have a coefficient that is not 0."""
    return len([key for key, many in table.items() if key < bound and many != 0])


def raised(p, k):
    """p to the power of a number k."""
    # Row by row with p itself: squares of powers have far more products of terms.
    out = number(1)
    for _ in range(k):
        out = times(p, out)
    return out
