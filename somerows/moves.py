"""Moves: where the steps of many standings of one case and plan lead."""

from somerows.standings import moves_of, turns_of


def is_same(value, right):
    """Return whether the value, which may be any, is the right one, of the same kinds throughout.

    The right one is built from tuples, strings and integers.
    """
    if isinstance(right, tuple):
        if not isinstance(value, tuple) or len(value) != len(right):
            return False
        return all([is_same(part, right_part) for part, right_part in zip(value, right)])
    # Python takes True for 1.
    return value == right and not isinstance(value, bool)


class Moves:
    """The steps of standings; what each source allows is worked out once."""

    def __init__(self, case, plan):
        self.case = case
        self.plan = plan
        self.turns = {}

    def of_standing(self, standing):
        """Return (step, standing after it) for all steps of the standing, ascending."""
        source = standing[0]
        if source not in self.turns:
            self.turns[source] = turns_of(self.case, self.plan, source)
        return moves_of(self.case, self.plan, standing, self.turns[source])

    def after_any(self, standing, value):
        """Return the standing after the value if it is a step of the standing, else None."""
        for step, later in self.of_standing(standing):
            if is_same(value, step):
                return later
        return None
