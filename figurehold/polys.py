"""Polynomials with integer coefficients: tuples of pairs (monomial, coefficient)."""

from figurehold.errors import BadValue, NothingThere, TooMany
from figurehold.fields import Fields
from figurehold.kinds import is_figures, is_variable
from figurehold.ratios import lowest
from figurehold.tables import minus, number, plus, raised, times, times_at_most

MOST_TERMS = 2000
MOST_FIGURES = 200
GREATEST_EXPONENT = 40
TOO_GREAT = 10 ** 50 * 10 ** 50 * 10 ** 50 * 10 ** 50


def constant(k):
    """The polynomial of an integer."""
    table = number(k)
    _check_limits(table)
    return tuple([((), many) for many in table.values()])


def variable(name):
    """The polynomial of the variable of this whole name."""
    return ((((name, 1),), 1),)


def added(p, q):
    """The sum."""
    return _of_monomials(plus(_by_monomials(p), _by_monomials(q)))


def less(p, q):
    """p less q."""
    return _of_monomials(minus(_by_monomials(p), _by_monomials(q)))


def multiplied(p, q):
    """The product."""
    fields = _fields((p, q), _greatest_exponent(p) + _greatest_exponent(q))
    product = times_at_most(fields.packed(p), fields.packed(q), MOST_TERMS)
    if product is None:
        raise TooMany("terms")
    return _told(product, fields)


def power(p, k):
    """p to the power of a number k."""
    fields = _fields((p,), _greatest_exponent(p) * k)
    return _told(raised(fields.packed(p), k), fields)


def variables(p):
    """The variables of p, rising."""
    return tuple(sorted(_degrees(p)))


def degree_in(p, variable):
    """The greatest exponent of the variable, 0 if it is not there."""
    return _degrees(p).get(variable, 0)


def put_in(p, pairs):
    """p with the variables of the pairs replaced by their polynomials, all at once."""
    present = {name: True for name in variables(p)}
    others = {name: other for name, other in pairs if name in present}
    kept = [((pair,), 1) for monomial, _ in p for pair in monomial if pair[0] not in others]
    # No exponent of the outcome passes this, whatever the sequence of products is.
    highest = max([_whole_degree(monomial) for monomial, _ in p], default=0)
    steepest = max([_greatest_exponent(other) for other in others.values()], default=0)
    fields = _fields([kept] + list(others.values()), highest * max(1, steepest))
    tables = {name: fields.packed(other) for name, other in others.items()}
    return _told(_replaced(_split(p, others, fields), tables), fields)


def value(p, pairs):
    """The value of p, a fraction, with these fractions for its variables."""
    known = {name: fraction for name, fraction in pairs}
    degrees = _degrees(p)
    tops = {}
    bottoms = {}
    whole = 1
    for name in sorted(degrees):
        if name not in known:
            raise NothingThere(name)
        n, d = known[name]
        tops[name] = _powers(n, degrees[name])
        bottoms[name] = _powers(d, degrees[name])
        whole = whole * bottoms[name][-1]
    total = 0
    for monomial, many in p:
        top = many
        bottom = 1
        for name, exponent in monomial:
            top = top * tops[name][exponent]
            bottom = bottom * bottoms[name][exponent]
        total = total + top * (whole // bottom)
    return lowest(total, whole)


def poly_text(p):
    """The text of p."""
    words = []
    for monomial, many in p:
        words.append("-" if many < 0 else "+")
        words.append(_term_text(monomial, abs(many)))
    if not words:
        return "0"
    if words[0] == "+":
        words = words[1:]
    return " ".join(words)


def read_poly(text):
    """The polynomial with this text."""
    if not isinstance(text, str):
        raise BadValue(0)
    if text == "0":
        return ()
    words = text.split(" ")
    if words[0] != "-":
        words = ["+"] + words
    if len(words) % 2 == 1 or len(words) > 2 * MOST_TERMS:
        raise BadValue(0)
    terms = []
    for at in range(0, len(words), 2):
        term = _read_term(words[at], words[at + 1])
        if term is None or (terms and terms[-1][0] >= term[0]):
            raise BadValue(0)
        terms.append(term)
    return tuple(terms)


def _check_limits(table):
    """Raise TooMany for a table with too many terms, then for one with too many figures."""
    if len(table) > MOST_TERMS:
        raise TooMany("terms")
    if any([abs(many) >= TOO_GREAT for many in table.values()]):
        raise TooMany("figures")


def _told(table, fields):
    """The polynomial of a table within the limits."""
    _check_limits(table)
    return fields.told(table)


def _by_monomials(p):
    """The coefficients of p by its monomials, which are made tuples."""
    return {tuple([(name, exponent) for name, exponent in monomial]): many for monomial, many in p}


def _of_monomials(table):
    """The polynomial of coefficients by monomials within the limits."""
    _check_limits(table)
    return tuple(sorted(table.items()))


def _fields(polys, greatest):
    """Fields for all variables of the polynomials, in which exponents up to the greatest find room."""
    names = sorted({name for p in polys for name in variables(p)})
    # By their last letters, so that those of p and of q are mixed: times_at_most then stops sooner.
    names = sorted(names, key=lambda name: name[::-1])
    return Fields(names, (greatest + 1) | 1)


def _degrees(p):
    """By the variables of p: the greatest exponent of each."""
    found = {}
    for monomial, _ in p:
        for name, exponent in monomial:
            found[name] = max(exponent, found.get(name, 0))
    return found


def _greatest_exponent(p):
    """The greatest exponent in p, 0 if there is none."""
    return max(list(_degrees(p).values()), default=0)


def _whole_degree(monomial):
    """The sum of the exponents of a monomial."""
    return sum([exponent for _, exponent in monomial])


def _split(p, others, fields):
    """By the replaced part of the monomials: the table of what stands beside it."""
    groups = {}
    for monomial, many in p:
        replaced = tuple([(name, exponent) for name, exponent in monomial if name in others])
        key = fields.key([pair for pair in monomial if pair[0] not in others])
        groups.setdefault(replaced, {})[key] = many
    return groups


def _replaced(groups, tables):
    """The sum of all groups, the variables of their monomials replaced by their tables."""
    for name in sorted(tables, reverse=True):
        # From the last variable to the first one, so that each stands at the end in its turn.
        ending = {}
        for monomial in list(groups):
            if monomial and monomial[-1][0] == name:
                ending.setdefault(monomial[:-1], {})[monomial[-1][1]] = groups.pop(monomial)
        for ahead, by_exponents in ending.items():
            groups[ahead] = plus(groups.get(ahead, {}), _nested(by_exponents, tables[name]))
    return groups.get((), {})


def _nested(by_exponents, base):
    """The sum of the tables, each times the base to the power of its exponent (all from 1 on)."""
    total = {}
    for exponent in range(max(by_exponents), 0, -1):
        total = times(plus(total, by_exponents.get(exponent, {})), base)
    return total


def _powers(base, most):
    """The powers of an integer from 0 up to the most."""
    found = [1]
    for _ in range(most):
        found.append(found[-1] * base)
    return found


def _term_text(monomial, size):
    """The text of a term without its sign."""
    factors = [name if exponent == 1 else f"{name}^{exponent}" for name, exponent in monomial]
    if size != 1 or not factors:
        factors = [str(size)] + factors
    return "*".join(factors)


def _read_term(sign, word):
    """The term with this sign and this text, or None."""
    factors = word.split("*")
    size = 1
    if is_figures(factors[0], MOST_FIGURES):
        size = int(factors[0])
        factors = factors[1:]
        if size == 1 and factors:
            return None
    pairs = [_read_factor(factor) for factor in factors]
    if sign not in ("+", "-") or None in pairs:
        return None
    if any([pairs[at][0] >= pairs[at + 1][0] for at in range(len(pairs) - 1)]):
        return None
    return tuple(pairs), (-size if sign == "-" else size)


def _read_factor(factor):
    """The pair (variable, exponent) with this text, or None."""
    name, mark, exponent = factor.partition("^")
    if not is_variable(name):
        return None
    if mark == "":
        return name, 1
    if not is_figures(exponent, 2) or not 2 <= int(exponent) <= GREATEST_EXPONENT:
        return None
    return name, int(exponent)
