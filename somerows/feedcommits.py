"""Commits of feeds: what they may change, what they send, and what of them is own to a child.

The source of a feed is (parents, children), with a child state for each child.
"""

from somerows.cases import is_child_state, is_integer_within, is_parent_state, is_tuple_of
from somerows.messages import LANE_WORDS, entries_of, in_lanes, told_kinds
from somerows.plans import LANES
from somerows.sources import refers_rightly


def is_feed_change(case, source, value):
    """Return whether the value is a change of a parent or a child of the source."""
    if not is_tuple_of(value, 3):
        return False
    parents, children = source
    word, number, state = value
    if word == "parent" and is_integer_within(number, 0, len(parents) - 1):
        return is_parent_state(case, state) and state != parents[number]
    if word == "child" and is_integer_within(number, 0, len(children) - 1):
        return is_child_state(case, state) and state != children[number]
    return False


def changed_at(states, number, state):
    """Return the states with another one in the place of that number."""
    return states[:number] + (state,) + states[number + 1:]


def after_feed_commit(source, changes):
    """Return the source of a feed after the changes."""
    parents, children = source
    for word, number, state in changes:
        if word == "parent":
            parents = changed_at(parents, number, state)
        else:
            children = changed_at(children, number, state)
    return parents, children


def is_feed_commit(case, source, value):
    """Return whether the value is a commit of a feed with this source."""
    if not isinstance(value, tuple) or not 1 <= len(value) <= 2:
        return False
    if not all([is_feed_change(case, source, change) for change in value]):
        return False
    if len(value) == 2 and not (case[4] and value[0][0] == "parent" and value[1][0] == "child"):
        return False
    parents, children = after_feed_commit(source, value)
    return all([refers_rightly(parents, child) for child in children])


def with_child(source, k):
    """Return the source of child k alone."""
    parents, children = source
    return parents, children[k]


def feed_entries(case, plan, source, later, change):
    """Return a tuple with the entry of the change, or () if it is not sent."""
    if change[0] == "child":
        _, k, state = change
        sent = entries_of(case, plan, with_child(source, k), with_child(later, k), ("child", state))
        return tuple([("child", k) + entry[1:] for entry in sent])
    # A parent's change is sent or not whatever the children are.
    sent = entries_of(case, plan, with_child(source, 0), with_child(later, 0), change)
    told = tuple([
        (k, kind)
        for k in range(len(later[1]))
        for kind in told_kinds(plan, with_child(later, k), change[1])
    ])
    return tuple([entry[:3] + (told,) for entry in sent])


def feed_messages(case, plan, source, changes):
    """Return, for each lane, the message that the commit of a feed gives, or None."""
    later = after_feed_commit(source, changes)
    return in_lanes(plan, [
        (change[0], feed_entries(case, plan, source, later, change)) for change in changes
    ])


def own_part(changes, k):
    """Return the own part of child k of a commit of a feed."""
    part = []
    for change in changes:
        if change[0] == "parent":
            part.append(change)
        elif change[1] == k:
            part.append(("child", change[2]))
    return tuple(part)


def is_own_place(plan, lane, changes, k):
    """Return whether the place of a commit of a feed in the lane is own to child k."""
    part = own_part(changes, k)
    if plan[LANES] == 1:
        return part != ()
    return any([change[0] == LANE_WORDS[lane] for change in part])
