"""Searches: all standings that steps lead to, up to the first ones with a fault."""

from somerows.faults import has_fault
from somerows.moves import Moves
from somerows.standings import beginning


class Search:
    """Levels of standings: each level has those that so many steps lead to, and no fewer."""

    def __init__(self, case, plan):
        start = beginning(case, plan)
        self.moves = Moves(case, plan)
        self.levels = [[start]]
        # For each standing, the one before it and the step from there.
        self.origins = {start: None}

    def add_level(self):
        """Add the level of the standings that one step more leads to."""
        level = []
        for standing in self.levels[-1]:
            for step, later in self.moves.of_standing(standing):
                if later not in self.origins:
                    self.origins[later] = (standing, step)
                    level.append(later)
        self.levels.append(level)

    def path_to(self, standing):
        """Return the tuple of the steps that lead from the beginning to a standing of a level."""
        path = []
        while self.origins[standing] is not None:
            standing, step = self.origins[standing]
            path.append(step)
        return tuple(path[::-1])


def first_fault(case, words, level):
    """Return the first standing of the level that has a fault of the words, or None."""
    for standing in level:
        if has_fault(case, words, standing):
            return standing
    return None


def search_for(case, plan, words):
    """Return (search, fault): a search up to the first standing with a fault, and this standing.

    If there is none, the search has all standings, and the fault is None.
    """
    search = Search(case, plan)
    fault = None
    while fault is None and search.levels[-1]:
        search.add_level()
        fault = first_fault(case, words, search.levels[-1])
    return search, fault
