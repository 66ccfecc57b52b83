"""Plain reckoning with polynomials, for comparison: dicts from monomials to integers."""

import random

VARIABLES = ("X_p", "t_d", "x_a", "x_ab", "y_a")


def table(p):
    return {tuple((name, exponent) for name, exponent in monomial): many for monomial, many in p}


def poly(terms):
    return tuple(sorted((monomial, many) for monomial, many in terms.items() if many))


def sum_of(p, q, sign=1):
    out = table(p)
    for monomial, many in table(q).items():
        out[monomial] = out.get(monomial, 0) + sign * many
    return poly(out)


def product(p, q):
    out = {}
    for one, many in p:
        for other, much in q:
            exponents = dict(one)
            for name, exponent in other:
                exponents[name] = exponents.get(name, 0) + exponent
            monomial = tuple(sorted(exponents.items()))
            out[monomial] = out.get(monomial, 0) + many * much
    return poly(out)


def power(p, k):
    out = (((), 1),)
    for _ in range(k):
        out = product(out, p)
    return out


def put_in(p, pairs):
    others = dict(pairs)
    out = ()
    for monomial, many in p:
        term = (((), many),)
        for name, exponent in monomial:
            term = product(term, power(others.get(name, ((((name, 1),), 1),)), exponent))
        out = sum_of(out, term)
    return out


def text(p):
    """The text of [5]."""
    out = ""
    for monomial, many in p:
        factors = [name + (f"^{exponent}" if exponent > 1 else "") for name, exponent in monomial]
        if abs(many) != 1 or not monomial:
            factors.insert(0, str(abs(many)))
        out += (" - " if many < 0 else " + ") + "*".join(factors)
    if not out:
        return "0"
    return out[3:] if out.startswith(" + ") else out[1:]


def some_poly(source, terms, degree=3, names=VARIABLES, size=9):
    """A polynomial out of a random source, of at most so many terms."""
    out = {}
    for _ in range(terms):
        chosen = sorted(source.sample(names, source.randint(0, min(3, len(names)))))
        monomial = tuple((name, source.randint(1, degree)) for name in chosen)
        out[monomial] = source.randint(-size, size)
    return poly(out)


def source(seed):
    return random.Random(seed)


def as_lists(thing):
    if isinstance(thing, (list, tuple)):
        return [as_lists(member) for member in thing]
    return thing


def is_tuples(thing):
    """Whether there is no list in it, also within."""
    if isinstance(thing, tuple):
        return all(is_tuples(member) for member in thing)
    return not isinstance(thing, list)


def many_names(many):
    """So many names, rising."""
    letters = "abcdefghijklmnopqrstuvwxyz"
    names = [a + b + c for a in letters for b in letters for c in letters]
    return names[:many]


def many_terms(many, letter="x"):
    """The sum of so many variables."""
    return tuple(((((f"{letter}_{name}", 1),), 1)) for name in many_names(many))
