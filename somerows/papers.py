"""Papers: texts of cases and plans."""

from somerows.errors import InvalidText
from somerows.plans import ANEW, BEGINNINGS_ANEW, CHILDREN, LANES, LATE, LOOKS_AGAIN, PARENTS
from somerows.plans import SENDINGS, TELLS_CHILDREN, TELLS_VALUE

VALUES_TOLD = "tells values"
CHILDREN_TOLD = "tells children"
AGAIN = "looks again"
JOINT = "joint"


def text_of_plan(plan):
    """Return the text of the plan."""
    parts = [
        f"lanes {plan[LANES]}", f"late {plan[LATE]}",
        f"children {plan[CHILDREN]}", f"parents {plan[PARENTS]}",
    ]
    if plan[TELLS_VALUE]:
        parts.append(VALUES_TOLD)
    if plan[TELLS_CHILDREN]:
        parts.append(CHILDREN_TOLD)
    if plan[LOOKS_AGAIN]:
        parts.append(AGAIN)
    parts.append(f"anew {plan[ANEW]}")
    return ", ".join(parts)


def text_of_test(test):
    """Return the text of the pairs that pass."""
    pairs = [f"{kind}.{value}" for kind, value in test]
    return " ".join(["passing"] + pairs) if pairs else "passing none"


def text_of_case(case):
    """Return the text of the case."""
    n, values, kinds, test, joint = case
    parts = [f"parents {n}", f"values {values}", f"kinds {kinds}", text_of_test(test)]
    if joint:
        parts.append(JOINT)
    return ", ".join(parts)


def read_part(parts, word, choices):
    """Return the choice that stands behind the word in the parts, or the first one if none does."""
    for choice in choices:
        if f"{word} {choice}" in parts:
            return choice
    return choices[0]


def guessed_plan(text):
    """Return the only plan that can have the text."""
    parts = text.split(", ")
    return (
        read_part(parts, "lanes", (1, 2)),
        read_part(parts, "late", (1, 2)),
        read_part(parts, "children", SENDINGS),
        read_part(parts, "parents", SENDINGS),
        VALUES_TOLD in parts,
        CHILDREN_TOLD in parts,
        AGAIN in parts,
        read_part(parts, "anew", BEGINNINGS_ANEW),
    )


def guessed_case(text):
    """Return the only case that can have the text."""
    parts = text.split(", ")
    n = read_part(parts, "parents", (1, 2, 3))
    values = read_part(parts, "values", (1, 2, 3))
    kinds = read_part(parts, "kinds", (1, 2))
    # The pairs stand in one part, one blank between them.
    words = [word for part in parts for word in part.split(" ")]
    test = [
        (kind, value)
        for kind in range(kinds)
        for value in range(values)
        if f"{kind}.{value}" in words
    ]
    return n, values, kinds, tuple(test), JOINT in parts


def read_plan(text):
    """Return the plan that has just this text."""
    # Each text of a plan tells all of it, so that no other plan than the guessed one has it.
    if not isinstance(text, str) or text_of_plan(guessed_plan(text)) != text:
        raise InvalidText(text)
    return guessed_plan(text)


def read_case(text):
    """Return the case that has just this text."""
    if not isinstance(text, str) or text_of_case(guessed_case(text)) != text:
        raise InvalidText(text)
    return guessed_case(text)
