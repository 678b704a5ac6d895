"""Walks: standings that chance leads to, the same ones each time."""

import random

from somerows.standings import after, beginning, steps


def walk(case, plan, length, seed):
    """Return the standings along a walk of so many steps, and its steps."""
    chance = random.Random(seed)
    standings, taken = [beginning(case, plan)], []
    for _ in range(length):
        step = chance.choice(steps(case, plan, standings[-1]))
        taken.append(step)
        standings.append(after(case, plan, standings[-1], step))
    return standings, taken
