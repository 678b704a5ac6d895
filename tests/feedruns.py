"""Feeds of many cases and plans, and feeds after calls."""

import itertools
import random

from feedmodel import make
from samples import JOINT, PAIR, SMALL, every_plan, plan_with
from somerows.feeds import Feed

CASES = [
    SMALL, JOINT, PAIR, (1, 2, 2, ((0, 1), (1, 0)), True), (2, 2, 2, ((0, 0), (1, 1)), True),
    (3, 3, 2, ((0, 0), (0, 2), (1, 1)), True), (3, 1, 1, ((0, 0),), False),
    (2, 3, 1, ((0, 0), (0, 1)), True), (1, 1, 1, (), True),
]


def runs():
    """Return (case, plan, c, seed) with each case, lanes, late, anew and c, and many plans."""
    found = []
    shapes = itertools.product((1, 2), (1, 2), ('never', 'cut', 'kept'), (1, 2, 3, 4))
    for seed, (lanes, late, anew, c) in enumerate(shapes):
        plan = random.Random(seed).choice(every_plan((lanes,), (late,), (anew,)))
        found.append((CASES[seed % len(CASES)], plan, c, seed))
        found.append((CASES[(seed + 4) % len(CASES)],
                      plan_with(plan, children='all', tells_value=True), c, seed))
    return found


def followed(case, plan, c, calls):
    """Return a feed after the calls."""
    feed = Feed(case, plan, c)
    for call in calls:
        make(feed, call)
    return feed
