"""Tables, which show that no history has a fault, and histories, which show one that has."""

from somerows.faults import has_fault
from somerows.moves import Moves
from somerows.searches import search_for
from somerows.standings import are_standings, beginning


def find_table(case, plan, words):
    """Return the least table for the words, or None if there is none."""
    search, fault = search_for(case, plan, words)
    if fault is not None:
        return None
    return tuple(sorted(search.origins))


def find_history(case, plan, words):
    """Return a history for the words with as few steps as can be, or None if there is none."""
    search, fault = search_for(case, plan, words)
    if fault is None:
        return None
    return search.path_to(fault)


def is_ascending(values):
    """Return whether the values ascend and are all different."""
    return all([value < later for value, later in zip(values, values[1:])])


def is_table(case, plan, words, value):
    """Return whether the value is a table for the words."""
    # Only standings are compared: other values may have no order in Python.
    if not isinstance(value, tuple) or not are_standings(case, plan, value):
        return False
    known = {standing: True for standing in value}
    if not is_ascending(value) or beginning(case, plan) not in known:
        return False
    moves = Moves(case, plan)
    for standing in value:
        if has_fault(case, words, standing):
            return False
        if not all([later in known for _, later in moves.of_standing(standing)]):
            return False
    return True


def is_history(case, plan, words, value):
    """Return whether the value is a history for the words."""
    if not isinstance(value, tuple):
        return False
    moves = Moves(case, plan)
    standing = beginning(case, plan)
    faulty = False
    for step in value:
        # A history ends with the first fault.
        if faulty:
            return False
        standing = moves.after_any(standing, step)
        if standing is None:
            return False
        faulty = has_fault(case, words, standing)
    return faulty
