"""Moves: where the steps of many standings of one case and plan lead.

What is said of moves here holds for any object with such an of_standing.
"""

from somerows.standings import moves_of, turns_of


def is_same(value, right):
    """Return whether the value, which may be any, is the right one, of the same kinds throughout.

    The right one is built from tuples, strings and integers.
    """
    if isinstance(right, tuple):
        if not isinstance(value, tuple) or len(value) != len(right):
            return False
        return all([is_same(part, right_part) for part, right_part in zip(value, right)])
    # Python takes True for 1.
    return value == right and not isinstance(value, bool)


class Moves:
    """The steps of standings; what each source allows is worked out once."""

    def __init__(self, case, plan):
        self.case = case
        self.plan = plan
        self.turns = {}

    def of_standing(self, standing):
        """Return (step, standing after it) for all steps of the standing, ascending."""
        source = standing[0]
        if source not in self.turns:
            self.turns[source] = turns_of(self.case, self.plan, source)
        return moves_of(self.case, self.plan, standing, self.turns[source])


def after_any(moves, standing, value):
    """Return the standing after the value, which may be any, if it is a step, else None."""
    for step, later in moves.of_standing(standing):
        if is_same(value, step):
            return later
    return None


def standings_along(moves, start, value):
    """Return the start and the standings after each step of the value, which may be any.

    Return None if it is not a tuple of steps, each one of the standing before it.
    """
    if not isinstance(value, tuple):
        return None
    standings = [start]
    for step in value:
        later = after_any(moves, standings[-1], step)
        if later is None:
            return None
        standings.append(later)
    return standings


def is_ascending(values):
    """Return whether the values ascend and are all different."""
    return all([value < later for value, later in zip(values, values[1:])])


def is_closed(moves, start, standings):
    """Return whether standings ascend, the start among them, and steps lead to none but them."""
    if not is_ascending(standings):
        return False
    known = {standing: True for standing in standings}
    if start not in known:
        return False
    for standing in standings:
        if not all([later in known for _, later in moves.of_standing(standing)]):
            return False
    return True
