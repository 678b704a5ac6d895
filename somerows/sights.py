"""Sights: what a copy tells of itself, and which sources there can be behind it."""

from somerows.cases import is_integer_within, is_tuple_of
from somerows.copies import is_copy
from somerows.moves import Moves, standings_along
from somerows.plans import LANES, LATE
from somerows.searches import all_standings, search_until
from somerows.standings import beginning


def sight_of(standing):
    """Return the sight of the standing."""
    return standing[1], tuple([len(waiting) for waiting in standing[2]])


def is_sight(case, plan, value):
    """Return whether the value is a copy and as many lengths as the plan has lanes."""
    if not is_tuple_of(value, 2) or not is_copy(case, value[0]):
        return False
    lengths = value[1]
    if not is_tuple_of(lengths, plan[LANES]):
        return False
    return all([is_integer_within(length, 0, plan[LATE]) for length in lengths])


def along_path(case, plan, value):
    """Return the standings along a path, or None if the value is none."""
    return standings_along(Moves(case, plan), beginning(case, plan), value)


def is_path(case, plan, value):
    """Return whether the value is a path."""
    return along_path(case, plan, value) is not None


def watch_of(case, plan, path):
    """Return the watch of the path."""
    return tuple([sight_of(standing) for standing in along_path(case, plan, path)])


def sources_of(standings):
    """Return, in ascending order, the different sources of the standings."""
    return sorted({standing[0] for standing in standings})


def possible_sources(case, plan, sight):
    """Return, in ascending order, the sources that are possible at the sight."""
    return sources_of([
        standing for standing in all_standings(case, plan) if sight_of(standing) == sight
    ])


def find_path(case, plan, sight, source):
    """Return a path with as few steps as can be to the sight and the source, or None."""
    search = search_until(
        Moves(case, plan), beginning(case, plan),
        lambda standing: standing[0] == source and sight_of(standing) == sight)
    return search.path()


def shared(states):
    """Return the state that all the states are, or None if they differ."""
    return states[0] if all([state == states[0] for state in states]) else None


def sure_rows(case, plan, sight):
    """Return what all sources that are possible at the sight have, or None if there are none."""
    sources = possible_sources(case, plan, sight)
    if not sources:
        return None
    parents = [shared([source[0][p] for source in sources]) for p in range(case[0])]
    return tuple(parents), shared([source[1] for source in sources])


def after_sight(moves, standings, sight):
    """Return the different standings with the sight that one step of the standings leads to."""
    found = {
        later: True
        for standing in standings
        for _, later in moves.of_standing(standing)
        if sight_of(later) == sight
    }
    return list(found)


def sources_after(case, plan, watch):
    """Return, in ascending order, the sources that are possible after the watch."""
    start = beginning(case, plan)
    standings = [start] if sight_of(start) == watch[0] else []
    moves = Moves(case, plan)
    for sight in watch[1:]:
        standings = after_sight(moves, standings, sight)
    return sources_of(standings)
