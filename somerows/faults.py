"""Faults: what can be wrong with the copy of a standing."""

from somerows.sources import wished

# In ascending order.
FAULT_WORDS = ("blinks", "dangles", "lacks", "left")


def is_words(value):
    """Return whether the value is an ascending tuple of different words of faults."""
    if not isinstance(value, tuple) or not all([word in FAULT_WORDS for word in value]):
        return False
    return all([word < later for word, later in zip(value, value[1:])])


def rows_beside(case, standing):
    """Return, for all parents and the child, (state that is wished, state in the copy)."""
    parents, child = wished(case, standing[0])
    kept_parents, kept_child = standing[1]
    return list(zip(parents + (child,), kept_parents + (kept_child,)))


def is_absent(state):
    """Return whether the state is that of an absent parent or of an absent child."""
    return state in (-1, ())


def is_lacking(rows):
    """Return whether some row is not absent as it is wished and is not so in the copy."""
    return any([not is_absent(right) and kept != right for right, kept in rows])


def is_left_over(rows):
    """Return whether some row is absent as it is wished, but not in the copy."""
    return any([is_absent(right) and not is_absent(kept) for right, kept in rows])


def is_dangling(copy):
    """Return whether the copy has the child and has its parent not."""
    parents, child = copy
    return child != () and parents[child[1]] == -1


def faults(case, standing):
    """Return the ascending tuple of the words of the faults that the standing has."""
    found = []
    if standing[3] == 2:
        found.append("blinks")
    if is_dangling(standing[1]):
        found.append("dangles")
    # What is under way may still put right what lacks or is left.
    if all([waiting == () for waiting in standing[2]]):
        rows = rows_beside(case, standing)
        if is_lacking(rows):
            found.append("lacks")
        if is_left_over(rows):
            found.append("left")
    return tuple(found)


def has_fault(case, words, standing):
    """Return whether the standing has a fault of the words."""
    return any([word in words for word in faults(case, standing)])
