"""Copies: the rows that the copy has, and how it receives messages."""

from somerows.cases import is_child_state, is_parent_state, is_tuple_of, pair_passes, value_passes
from somerows.plans import LOOKS_AGAIN, TELLS_VALUE


def is_kept_state(case, value):
    """Return whether the value is -1 or a parent's value that passes."""
    if not is_parent_state(case, value):
        return False
    return value == -1 or value_passes(case, value)


def is_copy(case, value):
    """Return whether the value is a copy."""
    if not is_tuple_of(value, 2):
        return False
    parents, child = value
    if not is_tuple_of(parents, case[0]) or not is_child_state(case, child):
        return False
    return all([is_kept_state(case, state) for state in parents])


def is_seen_to_fail(case, child, p, state):
    """Return whether the child refers to parent p and does not pass by its state."""
    if child == () or child[1] != p:
        return False
    return not pair_passes(case, child[0], state)


def after_parent_entry(case, plan, copy, entry):
    """Return the copy after it has received the entry of a parent."""
    parents, child = copy
    p, state, told = entry[1:]
    kept = state if value_passes(case, state) else -1
    if told != ():
        child = (told[0], p) if pair_passes(case, told[0], state) else ()
    if plan[LOOKS_AGAIN] and is_seen_to_fail(case, child, p, state):
        child = ()
    return parents[:p] + (kept,) + parents[p + 1:], child


def after_child_entry(case, plan, copy, entry):
    """Return the copy after it has received the entry of the child."""
    parents = copy[0]
    state, value = entry[1:]
    if state == ():
        return parents, ()
    kind, p = state
    known = value if plan[TELLS_VALUE] else parents[p]
    child = state if pair_passes(case, kind, known) else ()
    return parents, child


def received(case, plan, copy, message):
    """Return the copy after it has received the message."""
    for entry in message:
        if entry[0] == "parent":
            copy = after_parent_entry(case, plan, copy, entry)
        else:
            copy = after_child_entry(case, plan, copy, entry)
    return copy
