"""Tables, which show that no history has a fault, and histories, which show one that has."""

from somerows.faults import has_fault
from somerows.moves import Moves, after_any, is_closed
from somerows.searches import search_for
from somerows.standings import are_standings, beginning


def find_table(case, plan, words):
    """Return the least table for the words, or None if there is none."""
    return search_for(case, plan, words).closed()


def find_history(case, plan, words):
    """Return a history for the words with as few steps as can be, or None if there is none."""
    return search_for(case, plan, words).path()


def is_table(case, plan, words, value):
    """Return whether the value is a table for the words."""
    # Only standings are compared: other values may have no order in Python.
    if not isinstance(value, tuple) or not are_standings(case, plan, value):
        return False
    if any([has_fault(case, words, standing) for standing in value]):
        return False
    return is_closed(Moves(case, plan), beginning(case, plan), value)


def is_history(case, plan, words, value):
    """Return whether the value is a history for the words."""
    if not isinstance(value, tuple):
        return False
    moves = Moves(case, plan)
    standing = beginning(case, plan)
    faulty = False
    for step in value:
        # A history ends with the first fault.
        if faulty:
            return False
        standing = after_any(moves, standing, step)
        if standing is None:
            return False
        faulty = has_fault(case, words, standing)
    return faulty
