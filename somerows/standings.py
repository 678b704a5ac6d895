"""Standings: the source, the copy and what is under way, and the steps from one to the next."""

from somerows.cases import is_integer_within, is_tuple_of
from somerows.copies import is_copy, received
from somerows.messages import messages_of
from somerows.plans import ANEW, LANES, LATE
from somerows.possible import PossiblePlaces
from somerows.sources import after_commit, child_passes, commits, is_source, wished


def empty_lanes(plan):
    """Return the lanes of the plan with nothing in them."""
    return ((),) * plan[LANES]


def beginning(case, plan):
    """Return the standing at the beginning."""
    absent = ((-1,) * case[0], ())
    return absent, absent, empty_lanes(plan), 0


def is_lane(plan, possible, lane, value):
    """Return whether the value is a tuple of possible messages that the lane has room for."""
    if not isinstance(value, tuple) or len(value) > plan[LATE]:
        return False
    return all([possible.include(lane, (message,)) for message in value])


def is_standing_with(case, plan, possible, value):
    """Return whether the value is a standing with none but the possible messages."""
    if not is_tuple_of(value, 4):
        return False
    source, copy, lanes, mark = value
    if not is_source(case, source) or not is_copy(case, copy):
        return False
    if not is_integer_within(mark, 0, 2) or not is_tuple_of(lanes, plan[LANES]):
        return False
    return all([is_lane(plan, possible, lane, waiting) for lane, waiting in enumerate(lanes)])


def is_standing(case, plan, value):
    """Return whether the value is a standing."""
    return is_standing_with(case, plan, PossiblePlaces(case, (plan,)), value)


def are_standings(case, plan, values):
    """Return whether all the values, which may be any, are standings."""
    possible = PossiblePlaces(case, (plan,))
    return all([is_standing_with(case, plan, possible, value) for value in values])


def next_mark(case, standing, source, copy):
    """Return the mark after a step of the standing that leads to this source and copy."""
    mark = standing[3]
    passes = child_passes(case, source)
    if copy[1] == ():
        return 2 if mark == 1 and passes and child_passes(case, standing[0]) else 0
    if not passes:
        return 0
    return 1 if mark == 1 or standing[1][1] == () else 0


def followed(case, standing, source, copy, lanes):
    """Return the standing with these parts that a step of the other one leads to."""
    return source, copy, lanes, next_mark(case, standing, source, copy)


def with_messages(lanes, messages):
    """Return the lanes with each message, where it is not None, behind those of its lane."""
    return tuple([
        waiting if message is None else waiting + (message,)
        for waiting, message in zip(lanes, messages)
    ])


def without_first(lanes, lane):
    """Return the lanes without what is first in one of them."""
    return lanes[:lane] + (lanes[lane][1:],) + lanes[lane + 1:]


def after_messages(case, standing, source, messages):
    """Return the standing after a commit that leads to this source and gives these messages."""
    return followed(case, standing, source, standing[1], with_messages(standing[2], messages))


def after_delivery(case, plan, standing, lane):
    """Return the standing after the lane has delivered its first message."""
    source, copy, lanes = standing[:3]
    later = received(case, plan, copy, lanes[lane][0])
    return followed(case, standing, source, later, without_first(lanes, lane))


def after_beginning_anew(case, plan, standing):
    """Return the standing after the copy has been begun anew."""
    source = standing[0]
    lanes = empty_lanes(plan) if plan[ANEW] == "cut" else standing[2]
    return followed(case, standing, source, wished(case, source), lanes)


def after(case, plan, standing, step):
    """Return the standing after a step of it."""
    source = standing[0]
    if step[0] == "commit":
        messages = messages_of(case, plan, source, step[1])
        return after_messages(case, standing, after_commit(source, step[1]), messages)
    if step[0] == "deliver":
        return after_delivery(case, plan, standing, step[1])
    return after_beginning_anew(case, plan, standing)


def turns_of(case, plan, source):
    """Return (commit, source after it, its messages) for all commits of the source, ascending."""
    return [
        (commit, after_commit(source, commit), messages_of(case, plan, source, commit))
        for commit in commits(case, source)
    ]


def have_room(plan, lanes, messages):
    """Return whether each lane that gets a message has a place for it."""
    # None is no message, but () is one and takes a place.
    return all([
        message is None or len(waiting) < plan[LATE]
        for waiting, message in zip(lanes, messages)
    ])


def moves_of(case, plan, standing, turns):
    """Return (step, standing after it) for all steps of the standing, ascending.

    The turns are those of the standing's source.
    """
    # By their words "anew" comes before "commit", and "commit" before "deliver".
    moves = []
    if plan[ANEW] != "never":
        moves.append((("anew",), after_beginning_anew(case, plan, standing)))
    for commit, source, messages in turns:
        if have_room(plan, standing[2], messages):
            moves.append((("commit", commit), after_messages(case, standing, source, messages)))
    for lane, waiting in enumerate(standing[2]):
        if waiting != ():
            moves.append((("deliver", lane), after_delivery(case, plan, standing, lane)))
    return moves


def steps(case, plan, standing):
    """Return, in ascending order, all steps of the standing."""
    return [step for step, _ in moves_of(case, plan, standing, turns_of(case, plan, standing[0]))]
