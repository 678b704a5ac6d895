"""Layers, which show that no history for the words has fewer steps than so many."""

from somerows.faults import has_fault
from somerows.moves import Moves
from somerows.searches import search_for
from somerows.standings import are_standings, beginning


def find_layers(case, plan, words):
    """Return layers up to the number of steps of a shortest history, or None if there is none."""
    search = search_for(case, plan, words)
    if search.end is None:
        return None
    return {standing: number for number, level in enumerate(search.levels) for standing in level}


def fewest_steps(case, plan, words):
    """Return the number of steps of a shortest history, or None if there is none."""
    search = search_for(case, plan, words)
    if search.end is None:
        return None
    # The beginning is the level of no steps.
    return len(search.levels) - 1


def is_number(value):
    """Return whether the value is an integer from 0 on."""
    return isinstance(value, int) and not isinstance(value, bool) and value >= 0


def leads_at_most_one_on(moves, layers, standing):
    """Return whether each step leads into the layers, to a number greater by at most 1."""
    limit = layers[standing] + 1
    return all([
        later in layers and layers[later] <= limit
        for _, later in moves.of_standing(standing)
    ])


def are_layers(case, plan, words, layers):
    """Return whether the dict from standings to numbers is layers for the words."""
    start = beginning(case, plan)
    if start not in layers or layers[start] != 0:
        return False
    greatest = max(layers.values())
    moves = Moves(case, plan)
    for standing, number in layers.items():
        # What lies beyond the greatest number is not asked.
        if number == greatest:
            continue
        if has_fault(case, words, standing) or not leads_at_most_one_on(moves, layers, standing):
            return False
    return True


def is_layers(case, plan, words, number, value):
    """Return whether the value is layers for the words whose greatest number is at least the number."""
    if not isinstance(value, dict) or not are_standings(case, plan, list(value)):
        return False
    if not all([is_number(layer) for layer in value.values()]):
        return False
    return are_layers(case, plan, words, value) and max(value.values()) >= number
