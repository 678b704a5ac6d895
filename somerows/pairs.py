"""Pairs: two plans side by side, and whether their copies are always the same."""

from somerows.cases import is_tuple_of
from somerows.copies import is_copy
from somerows.moves import is_closed, standings_along
from somerows.pairmoves import PairMoves, after_pair_anew, after_pair_delivery, after_pair_places
from somerows.pairmoves import places_of
from somerows.plans import LANES, LATE
from somerows.possible import PossiblePlaces
from somerows.searches import search_until
from somerows.sources import after_commit, is_source
from somerows.standings import beginning


def pair_beginning(case, first, second):
    """Return the pair standing at the beginning."""
    # The plans have the same number of lanes, and all of these are empty.
    absent, _, lanes, _ = beginning(case, first)
    return absent, absent, absent, lanes


def pair_steps(case, first, second, standing):
    """Return, in ascending order, all steps of the pair standing."""
    return [step for step, _ in PairMoves(case, first, second).of_standing(standing)]


def after_pair(case, first, second, standing, step):
    """Return the pair standing after a step of it."""
    if step[0] == "commit":
        source = standing[0]
        places = places_of(case, first, second, source, step[1])
        return after_pair_places(standing, after_commit(source, step[1]), places)
    if step[0] == "deliver":
        return after_pair_delivery(case, first, second, standing, step[1])
    return after_pair_anew(case, first, standing)


def is_parted(standing):
    """Return whether the copies of the pair standing are not the same."""
    return standing[1] != standing[2]


def search_for_parting(case, first, second):
    """Return a search up to the first pair standing whose copies are not the same."""
    moves = PairMoves(case, first, second)
    return search_until(moves, pair_beginning(case, first, second), is_parted)


def are_alike(case, first, second):
    """Return whether the plans are alike."""
    return search_for_parting(case, first, second).end is None


def find_pair_table(case, first, second):
    """Return the least pair table, or None if there is none."""
    return search_for_parting(case, first, second).closed()


def find_parting(case, first, second):
    """Return a parting with as few steps as can be, or None if there is none."""
    return search_for_parting(case, first, second).path()


def is_lane_of_places(plan, possible, lane, value):
    """Return whether the value is a tuple of possible places that the lane has room for."""
    if not isinstance(value, tuple) or len(value) > plan[LATE]:
        return False
    return all([possible.include(lane, place) for place in value])


def is_pair_standing(case, plan, possible, value):
    """Return whether the value is a pair standing with none but the possible places.

    The plan is one of the two, which have the same lanes and late.
    """
    if not is_tuple_of(value, 4):
        return False
    source, copy, other, lanes = value
    if not is_source(case, source) or not is_copy(case, copy) or not is_copy(case, other):
        return False
    if not is_tuple_of(lanes, plan[LANES]):
        return False
    return all([
        is_lane_of_places(plan, possible, lane, waiting) for lane, waiting in enumerate(lanes)
    ])


def is_pair_table(case, first, second, value):
    """Return whether the value is a pair table."""
    if not isinstance(value, tuple):
        return False
    # Only pair standings are compared: other values may have no order in Python.
    possible = PossiblePlaces(case, (first, second))
    if not all([is_pair_standing(case, first, possible, standing) for standing in value]):
        return False
    if any([is_parted(standing) for standing in value]):
        return False
    return is_closed(PairMoves(case, first, second), pair_beginning(case, first, second), value)


def is_parting(case, first, second, value):
    """Return whether the value is a parting."""
    moves = PairMoves(case, first, second)
    standings = standings_along(moves, pair_beginning(case, first, second), value)
    if standings is None:
        return False
    parted = [is_parted(standing) for standing in standings]
    # A parting ends as soon as the copies are not the same.
    return parted[-1] and not any(parted[:-1])


def group_alike(case, groups, plan):
    """Return the group whose plans are alike to the plan, or None."""
    for group in groups:
        # Plans that are alike to a third one are alike: one of the group is enough.
        if are_alike(case, group[0], plan):
            return group
    return None


def alike_groups(case, plans):
    """Return the ascending lists of the plans that are alike, in the order of their first plans."""
    groups = []
    for plan in sorted(plans):
        group = group_alike(case, groups, plan)
        if group is None:
            groups.append([plan])
        else:
            group.append(plan)
    return groups
