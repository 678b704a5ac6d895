"""Messages: what the commits of a source send to the copy, lane by lane."""

from somerows.cases import value_passes
from somerows.plans import CHILDREN, LANES, PARENTS, TELLS_CHILDREN, TELLS_VALUE
from somerows.sources import after_commit, child_passes

# The changes that each of two lanes is for.
LANE_WORDS = ("parent", "child")


def is_sent(sending, passed, passes):
    """Return whether a change is sent, if its row passed before it and passes after it or not."""
    if sending == "all":
        return True
    return passes or (sending == "either" and passed)


def told_kinds(plan, later, p):
    """Return what is told of the child with parent p, by the source after the commit."""
    child = later[1]
    if plan[TELLS_CHILDREN] and child != () and child[1] == p:
        return (child[0],)
    return ()


def told_value(plan, later, state):
    """Return the value that is told with the child's state, by the source after the commit."""
    if plan[TELLS_VALUE] and state != ():
        return later[0][state[1]]
    return -1


def entries_of(case, plan, source, later, change):
    """Return a tuple with the entry of the change, or () if it is not sent."""
    if change[0] == "parent":
        p, state = change[1:]
        sent = is_sent(plan[PARENTS], value_passes(case, source[0][p]), value_passes(case, state))
        entry = ("parent", p, state, told_kinds(plan, later, p))
    else:
        sent = is_sent(plan[CHILDREN], child_passes(case, source), child_passes(case, later))
        entry = ("child", change[1], told_value(plan, later, change[1]))
    return (entry,) if sent else ()


def message_of(changed, word):
    """Return the entries that stand beside the word, or None if it is not there."""
    for first, entries in changed:
        if first == word:
            return entries
    return None


def in_lanes(plan, changed):
    """Return, for each lane, the message or None, by (word of a change, its entries) in order."""
    if plan[LANES] == 1:
        return (tuple([entry for _, entries in changed for entry in entries]),)
    return tuple([message_of(changed, word) for word in LANE_WORDS])


def messages_of(case, plan, source, commit):
    """Return, for each lane, the message that the commit gives, or None."""
    later = after_commit(source, commit)
    return in_lanes(plan, [
        (change[0], entries_of(case, plan, source, later, change)) for change in commit
    ])
