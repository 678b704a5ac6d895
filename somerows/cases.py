"""Cases: how many parents, values and kinds there are, and which pairs pass."""


def is_integer_within(value, low, high):
    """Return whether the value is an integer from low to high."""
    # Python counts True and False as ints; the document does not.
    if not isinstance(value, int) or isinstance(value, bool):
        return False
    return low <= value <= high


def is_tuple_of(value, length):
    """Return whether the value is a tuple with so many items."""
    return isinstance(value, tuple) and len(value) == length


def is_test_pair(value, values, kinds):
    """Return whether the value is a pair (kind, value) within these numbers."""
    if not is_tuple_of(value, 2):
        return False
    return is_integer_within(value[0], 0, kinds - 1) and is_integer_within(value[1], 0, values - 1)


def is_test(value, values, kinds):
    """Return whether the value is an ascending tuple of different pairs."""
    if not isinstance(value, tuple):
        return False
    # Only right pairs are compared: others may have no order in Python.
    if not all([is_test_pair(pair, values, kinds) for pair in value]):
        return False
    return all([pair < later for pair, later in zip(value, value[1:])])


def is_case(value):
    """Return whether the value is a case."""
    if not is_tuple_of(value, 5):
        return False
    n, values, kinds, test, joint = value
    if not is_integer_within(n, 1, 3) or not is_integer_within(values, 1, 3):
        return False
    if not is_integer_within(kinds, 1, 2) or not isinstance(joint, bool):
        return False
    return is_test(test, values, kinds)


def value_passes(case, value):
    """Return whether the parent state is a value that passes."""
    return any([pair[1] == value for pair in case[3]])


def pair_passes(case, kind, value):
    """Return whether the kind and the parent state pass together."""
    return (kind, value) in case[3]


def parent_states(case):
    """Return all parent states, in ascending order."""
    return list(range(-1, case[1]))


def child_states(case):
    """Return all child states, in ascending order."""
    return [()] + [(kind, p) for kind in range(case[2]) for p in range(case[0])]


def is_parent_state(case, value):
    """Return whether the value is a parent state."""
    return is_integer_within(value, -1, case[1] - 1)


def is_child_state(case, value):
    """Return whether the value is a child state."""
    if is_tuple_of(value, 0):
        return True
    if not is_tuple_of(value, 2):
        return False
    return is_integer_within(value[0], 0, case[2] - 1) and is_integer_within(value[1], 0, case[0] - 1)
