"""Mendings: what deliveries and commits make of a standing, without beginning anew."""

from somerows.moves import Moves, is_closed, standings_along
from somerows.plans import ANEW
from somerows.searches import search_until
from somerows.sources import wished
from somerows.standings import after_delivery, are_standings


def is_delivered(standing):
    """Return whether all lanes of the standing are empty."""
    return all([waiting == () for waiting in standing[2]])


def is_right(case, standing):
    """Return whether all lanes are empty and the copy is what is wished of the source."""
    return is_delivered(standing) and standing[1] == wished(case, standing[0])


def delivered_once(case, plan, standing):
    """Return the standings after one delivery, for each lane that is not empty."""
    return [
        after_delivery(case, plan, standing, lane)
        for lane, waiting in enumerate(standing[2])
        if waiting != ()
    ]


def outcomes(case, plan, standing):
    """Return, in ascending order, the outcomes of the standing."""
    # All that so many deliveries lead to have equally many messages under way.
    reached = [standing]
    while not is_delivered(reached[0]):
        found = {later: True for known in reached for later in delivered_once(case, plan, known)}
        reached = list(found)
    return sorted({known[1] for known in reached})


def settles(case, plan, standing):
    """Return whether the standing settles."""
    return outcomes(case, plan, standing) == [wished(case, standing[0])]


def mending_moves(case, plan):
    """Return the moves of standings by commits and deliveries alone."""
    return Moves(case, plan[:ANEW] + ("never",))


def is_mended(case, standing, later):
    """Return whether the later standing is right, with the source of the other one."""
    return later[0] == standing[0] and is_right(case, later)


def search_for_mending(case, plan, standing):
    """Return a search from the standing up to the first one that mends it."""
    return search_until(
        mending_moves(case, plan), standing, lambda later: is_mended(case, standing, later))


def find_mending(case, plan, standing):
    """Return a mending of the standing with as few steps as can be, or None if there is none."""
    return search_for_mending(case, plan, standing).path()


def find_hopeless(case, plan, standing):
    """Return the least hopeless set for the standing, or None if there is none."""
    return search_for_mending(case, plan, standing).closed()


def is_mending(case, plan, standing, value):
    """Return whether the value is a mending of the standing."""
    standings = standings_along(mending_moves(case, plan), standing, value)
    if standings is None:
        return False
    return is_mended(case, standing, standings[-1])


def is_hopeless(case, plan, standing, value):
    """Return whether the value is a hopeless set for the standing."""
    # Only standings are compared: other values may have no order in Python.
    if not isinstance(value, tuple) or not are_standings(case, plan, value):
        return False
    if any([is_mended(case, standing, later) for later in value]):
        return False
    return is_closed(mending_moves(case, plan), standing, value)
