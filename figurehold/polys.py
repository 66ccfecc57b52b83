"""Polynomials with integer coefficients: tuples of pairs (monomial, coefficient)."""

from figurehold.errors import BadValue, NothingThere, TooMany
from figurehold.kinds import is_figures, is_variable
from figurehold.ratios import lowest
from figurehold.replacing import degrees, greatest_exponent, put_table, roomy_fields
from figurehold.tables import minus, number, plus, raised, times_at_most

MOST_TERMS = 2000
MOST_FIGURES = 200
GREATEST_EXPONENT = 40
TOO_GREAT = 10 ** 50 * 10 ** 50 * 10 ** 50 * 10 ** 50


def constant(k):
    """The polynomial of an integer."""
    table = number(k)
    _check_limits(table)
    return tuple([((), many) for many in table.values()])


def variable(name):
    """The polynomial of the variable of this whole name."""
    return ((((name, 1),), 1),)


def added(p, q):
    """The sum."""
    return _of_monomials(plus(_by_monomials(p), _by_monomials(q)))


def less(p, q):
    """p less q."""
    return _of_monomials(minus(_by_monomials(p), _by_monomials(q)))


def multiplied(p, q):
    """The product."""
    fields = roomy_fields((p, q), greatest_exponent(p) + greatest_exponent(q))
    product = times_at_most(fields.packed(p), fields.packed(q), MOST_TERMS)
    if product is None:
        raise TooMany("terms")
    return _told(product, fields)


def power(p, k):
    """p to the power of a number k."""
    fields = roomy_fields((p,), greatest_exponent(p) * k)
    return _told(raised(fields.packed(p), k), fields)


def variables(p):
    """The variables of p, rising."""
    return tuple(sorted(degrees(p)))


def degree_in(p, variable):
    """The greatest exponent of the variable, 0 if it is not there."""
    return degrees(p).get(variable, 0)


def put_in(p, pairs):
    """p with the variables of the pairs replaced by their polynomials, all at once."""
    table, fields = put_table(p, pairs)
    return _told(table, fields)


def value(p, pairs):
    """The value of p, a fraction, with these fractions for its variables."""
    known = {name: fraction for name, fraction in pairs}
    highest = degrees(p)
    tops = {}
    bottoms = {}
    whole = 1
    for name in sorted(highest):
        if name not in known:
            raise NothingThere(name)
        n, d = known[name]
        tops[name] = _powers(n, highest[name])
        bottoms[name] = _powers(d, highest[name])
        whole = whole * bottoms[name][-1]
    total = 0
    for monomial, many in p:
        top = many
        bottom = 1
        for name, exponent in monomial:
            top = top * tops[name][exponent]
            bottom = bottom * bottoms[name][exponent]
        total = total + top * (whole // bottom)
    return lowest(total, whole)


def poly_text(p):
    """The text of p."""
    words = []
    for monomial, many in p:
        words.append("-" if many < 0 else "+")
        words.append(_term_text(monomial, abs(many)))
    if not words:
        return "0"
    if words[0] == "+":
        words = words[1:]
    return " ".join(words)


def read_poly(text):
    """The polynomial with this text."""
    if not isinstance(text, str):
        raise BadValue(0)
    if text == "0":
        return ()
    words = text.split(" ")
    if words[0] != "-":
        words = ["+"] + words
    if len(words) % 2 == 1 or len(words) > 2 * MOST_TERMS:
        raise BadValue(0)
    terms = []
    for at in range(0, len(words), 2):
        term = _read_term(words[at], words[at + 1])
        if term is None or (terms and terms[-1][0] >= term[0]):
            raise BadValue(0)
        terms.append(term)
    return tuple(terms)


def _check_limits(table):
    """Raise TooMany for a table with too many terms, then for one with too many figures."""
    if len(table) > MOST_TERMS:
        raise TooMany("terms")
    if any([abs(many) >= TOO_GREAT for many in table.values()]):
        raise TooMany("figures")


def _told(table, fields):
    """The polynomial of a table within the limits."""
    _check_limits(table)
    return fields.told(table)


def _by_monomials(p):
    """The coefficients of p by its monomials, which are made tuples."""
    return {tuple([(name, exponent) for name, exponent in monomial]): many for monomial, many in p}


def _of_monomials(table):
    """The polynomial of coefficients by monomials within the limits."""
    _check_limits(table)
    return tuple(sorted(table.items()))


def _powers(base, most):
    """The powers of an integer from 0 up to the most."""
    found = [1]
    for _ in range(most):
        found.append(found[-1] * base)
    return found


def _term_text(monomial, size):
    """The text of a term without its sign."""
    factors = [name if exponent == 1 else f"{name}^{exponent}" for name, exponent in monomial]
    if size != 1 or not factors:
        factors = [str(size)] + factors
    return "*".join(factors)


def _read_term(sign, word):
    """The term with this sign and this text, or None."""
    factors = word.split("*")
    size = 1
    if is_figures(factors[0], MOST_FIGURES):
        size = int(factors[0])
        factors = factors[1:]
        if size == 1 and factors:
            return None
    pairs = [_read_factor(factor) for factor in factors]
    if sign not in ("+", "-") or None in pairs:
        return None
    if any([pairs[at][0] >= pairs[at + 1][0] for at in range(len(pairs) - 1)]):
        return None
    return tuple(pairs), (-size if sign == "-" else size)


def _read_factor(factor):
    """The pair (variable, exponent) with this text, or None."""
    name, mark, exponent = factor.partition("^")
    if not is_variable(name):
        return None
    if mark == "":
        return name, 1
    if not is_figures(exponent, 2) or not 2 <= int(exponent) <= GREATEST_EXPONENT:
        return None
    return name, int(exponent)
