"""Steps and claims as texts: their members with blanks between."""

from figurehold.errors import BadValue
from figurehold.kinds import is_name, read_integer
from figurehold.relations import POINTS
from figurehold.steps import FORMS

MOST_FIGURES = 9


def step_text(step):
    """The text of a step."""
    return _text(step)


def claim_text(claim):
    """The text of a claim."""
    return _text(claim)


def read_step(text):
    """The step with this text, whatever points there are."""
    words = _words(text)
    if words[0] not in FORMS:
        raise BadValue(0)
    return _read(words, "p" + FORMS[words[0]])


def read_claim(text):
    """The claim with this text, whatever points there are."""
    words = _words(text)
    if words[0] not in POINTS:
        raise BadValue(0)
    return _read(words, "p" * POINTS[words[0]])


def _text(members):
    """The members with blanks between."""
    return " ".join([str(member) for member in members])


def _words(text):
    """What stands between the blanks of a text."""
    if not isinstance(text, str):
        raise BadValue(0)
    return text.split(" ")


def _read(words, form):
    """The tuple of the first word and of what the others tell, p in the form standing for a name."""
    if len(words) != 1 + len(form):
        raise BadValue(0)
    members = [_read_member(word, kind) for word, kind in zip(words[1:], form)]
    if None in members:
        raise BadValue(0)
    return (words[0],) + tuple(members)


def _read_member(word, kind):
    """The name or the integer with this text, or None."""
    if kind != "p":
        return read_integer(word, MOST_FIGURES)
    return word if is_name(word) else None
