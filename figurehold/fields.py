"""Between polynomials, as they are told, and tables, as they are reckoned with."""


class Fields:
    """Which digit of a table's keys is the exponent of which variable."""

    def __init__(self, names, radix):
        """The exponent of names[k] is the digit number k of numbers written to the radix.

        An odd radix above all exponents is asked for: dicts find the multiples of
        powers of 2 less well.
        """
        self.names = list(names)
        self.weights = [1]
        for _ in self.names:
            self.weights.append(self.weights[-1] * radix)
        self.places = {name: at for at, name in enumerate(self.names)}

    def packed(self, p):
        """The table of a polynomial."""
        return {self.key(monomial): many for monomial, many in p}

    def key(self, monomial):
        """The key of a monomial."""
        return sum([exponent * self.weights[self.places[name]] for name, exponent in monomial])

    def told(self, table):
        """The polynomial of a table."""
        return tuple(sorted([(self.monomial(key), many) for key, many in table.items()]))

    def monomial(self, key):
        """The monomial of a key."""
        pairs = []
        # Halves of halves, since most of very many digits are 0.
        waiting = [(key, 0, len(self.names))]
        while waiting:
            rest, start, many = waiting.pop()
            if rest == 0:
                continue
            if many == 1:
                pairs.append((self.names[start], rest))
            else:
                high, low = divmod(rest, self.weights[many // 2])
                waiting.append((low, start, many // 2))
                waiting.append((high, start + many // 2, many - many // 2))
        return tuple(sorted(pairs))
