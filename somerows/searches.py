"""Searches: all standings that steps lead to, up to the first ones that are sought.

The moves are any object whose of_standing(standing) returns (step, standing after it)
for all steps of a standing.
"""

from somerows.faults import has_fault
from somerows.moves import Moves
from somerows.standings import beginning


class Search:
    """Levels of standings: each level has those that so many steps lead to, and no fewer.

    A search goes up to the first standing that is sought, its end. If there is none, it
    has all standings that steps lead to, and the end is None.
    """

    def __init__(self, moves, start):
        self.moves = moves
        self.levels = [[start]]
        # For each standing, the one before it and the step from there.
        self.origins = {start: None}
        self.end = None

    def add_level(self):
        """Add the level of the standings that one step more leads to."""
        level = []
        for standing in self.levels[-1]:
            for step, later in self.moves.of_standing(standing):
                if later not in self.origins:
                    self.origins[later] = (standing, step)
                    level.append(later)
        self.levels.append(level)

    def path(self):
        """Return the tuple of the steps that lead from the start to the end, or None."""
        if self.end is None:
            return None
        path = []
        standing = self.end
        while self.origins[standing] is not None:
            standing, step = self.origins[standing]
            path.append(step)
        return tuple(path[::-1])

    def closed(self):
        """Return the ascending tuple of all standings that steps lead to, or None."""
        if self.end is not None:
            return None
        return tuple(sorted(self.origins))


def first_sought(level, is_sought):
    """Return the first standing of the level that is sought, or None."""
    for standing in level:
        if is_sought(standing):
            return standing
    return None


def search_until(moves, start, is_sought):
    """Return a search from the start up to the first standing that is sought."""
    search = Search(moves, start)
    search.end = first_sought(search.levels[-1], is_sought)
    while search.end is None and search.levels[-1]:
        search.add_level()
        search.end = first_sought(search.levels[-1], is_sought)
    return search


def search_for(case, plan, words):
    """Return a search from the beginning up to the first standing with a fault of the words."""
    return search_until(
        Moves(case, plan), beginning(case, plan),
        lambda standing: has_fault(case, words, standing))


def all_standings(case, plan):
    """Return a list of all standings that steps lead to."""
    # No words have a fault, so that the search has no end.
    return list(search_for(case, plan, ()).origins)
