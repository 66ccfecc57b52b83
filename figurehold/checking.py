"""Whether papers are right, each line by the one ahead of it."""

from figurehold.errors import BadPaper
from figurehold.outs import Lines, first_polys
from figurehold.relations import check_claim


class Reader:
    """Compares the lines of a paper, one after the other, with what they must be."""

    def __init__(self, text):
        lines = text.split("\n")
        # What stands behind the last line feed is no right line, whatever it is.
        self._rest = lines.pop()
        self._lines = lines
        self._at = 0

    def take(self, line):
        """The next line must be this one."""
        if self._at == len(self._lines) or self._lines[self._at] != line:
            raise BadPaper(self._at)
        self._at = self._at + 1

    def refuse(self):
        """The next line is wrong, whatever it is."""
        raise BadPaper(self._at)

    def end(self):
        """There must be nothing more."""
        if self._at < len(self._lines) or self._rest != "":
            raise BadPaper(self._at)


def paper_holds(construction, claim, paper):
    """True, if it is the paper of the claim, and the claim holds."""
    check_claim(construction, claim)
    if not isinstance(paper, str):
        raise BadPaper(0)
    reader = Reader(paper)
    for p in first_polys(claim):
        lines = Lines(construction.steps(), p)
        while not lines.ended():
            reader.take(lines.line)
            lines.go_on()
        if lines.p:
            reader.refuse()
        reader.take(lines.line)
    reader.end()
    return True
