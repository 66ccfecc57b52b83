"""The form of steps: tuples of a word, the new point's name, and what the word asks for."""

from figurehold.kinds import is_integer, is_sequence

# What stands behind the new name: p an elder point, n and d the numbers of a part.
FORMS = {
    "free": "",
    "slide": "pp",
    "part": "ppnd",
    "shift": "ppp",
    "turn": "ppp",
    "over": "pp",
    "mirror": "ppp",
    "foot": "ppp",
    "meet": "pppp",
    "second": "ppp",
    "centre": "ppp",
}
# The first letters of the unknowns that a step brings.
UNKNOWNS = {"free": "xy", "slide": "t"}
# The least and the greatest integer that a part takes.
LEAST = {"n": -100, "d": 1}
GREATEST = 100


def is_formed(step):
    """Whether it is a sequence of the length that its first member, a word of steps, asks for."""
    if not is_sequence(step) or not step or not isinstance(step[0], str):
        return False
    return step[0] in FORMS and len(step) == 2 + len(FORMS[step[0]])


def wrong_behind_name(step, points):
    """Where the first member behind the name is wrong, by the names of the elder points, or None."""
    for at, form in enumerate(FORMS[step[0]]):
        if not _is_member(step[2 + at], form, points):
            return 2 + at
    return None


def _is_member(member, form, points):
    """Whether it may stand in this place of a step."""
    if form == "p":
        return isinstance(member, str) and member in points
    return is_integer(member) and LEAST[form] <= member <= GREATEST


def elders(step):
    """The elder points that a step names, as they stand there."""
    return tuple([step[2 + at] for at, form in enumerate(FORMS[step[0]]) if form == "p"])


def new_unknowns(step):
    """The unknowns that a step brings."""
    return tuple([f"{letter}_{step[1]}" for letter in UNKNOWNS.get(step[0], "")])


def needed(steps, points):
    """The steps of these points, of those that they name, and so on, in their sequence."""
    asked = {point: True for point in points}
    found = []
    for step in reversed(steps):
        if step[1] in asked:
            found.append(step)
            for point in elders(step):
                asked[point] = True
    return tuple(reversed(found))
