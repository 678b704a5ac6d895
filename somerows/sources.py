"""Sources: the parents and the child, and the commits that change them."""

from somerows.cases import child_states, is_child_state, is_parent_state, is_tuple_of
from somerows.cases import pair_passes, parent_states, value_passes


def refers_rightly(parents, child):
    """Return whether the child is absent or refers to a parent that is not."""
    return child == () or parents[child[1]] != -1


def is_source(case, value):
    """Return whether the value is a source."""
    if not is_tuple_of(value, 2):
        return False
    parents, child = value
    if not is_tuple_of(parents, case[0]):
        return False
    if not all([is_parent_state(case, state) for state in parents]):
        return False
    return is_child_state(case, child) and refers_rightly(parents, child)


def all_parents(case):
    """Return every tuple of the states of all parents, in ascending order."""
    found = [()]
    for _ in range(case[0]):
        found = [parents + (state,) for parents in found for state in parent_states(case)]
    return found


def all_sources(case):
    """Return all sources, in ascending order."""
    children = child_states(case)
    return [
        (parents, child)
        for parents in all_parents(case)
        for child in children
        if refers_rightly(parents, child)
    ]


def child_passes(case, source):
    """Return whether the child passes in the source."""
    parents, child = source
    if child == ():
        return False
    kind, p = child
    return pair_passes(case, kind, parents[p])


def wished(case, source):
    """Return what the copy of the source should have."""
    parents = [state if value_passes(case, state) else -1 for state in source[0]]
    child = source[1] if child_passes(case, source) else ()
    return tuple(parents), child


def parent_changes(case, source):
    """Return all changes of one parent to another state."""
    states = parent_states(case)
    return [("parent", p, state) for p, old in enumerate(source[0]) for state in states if state != old]


def child_changes(case, source):
    """Return all changes of the child to another state."""
    return [("child", state) for state in child_states(case) if state != source[1]]


def tried_commits(case, source):
    """Return the commits of the source and such as would leave no source."""
    of_parents = parent_changes(case, source)
    of_child = child_changes(case, source)
    tried = [(change,) for change in of_parents + of_child]
    if not case[4]:
        return tried
    return tried + [(first, second) for first in of_parents for second in of_child]


def commits(case, source):
    """Return, in ascending order, all commits of the source."""
    found = []
    # Only the end of a commit counts: between two joint changes the child may
    # refer to an absent parent.
    for commit in tried_commits(case, source):
        parents, child = after_commit(source, commit)
        if refers_rightly(parents, child):
            found.append(commit)
    return sorted(found)


def after_commit(source, commit):
    """Return the source after the commit."""
    parents, child = source
    for change in commit:
        if change[0] == "parent":
            p, state = change[1:]
            parents = parents[:p] + (state,) + parents[p + 1:]
        else:
            child = change[1]
    return parents, child
