"""Plans: how changes of the source are sent to the copy and what it does with them."""

from somerows.cases import is_integer_within, is_tuple_of

# The index of each part of a plan.
LANES = 0
LATE = 1
CHILDREN = 2
PARENTS = 3
TELLS_VALUE = 4
TELLS_CHILDREN = 5
LOOKS_AGAIN = 6
ANEW = 7

# Both in ascending order.
SENDINGS = ("all", "either", "now")
BOOLS = (False, True)

BEGINNINGS_ANEW = ("never", "cut", "kept")


def is_plan(value):
    """Return whether the value is a plan."""
    if not is_tuple_of(value, 8):
        return False
    if not is_integer_within(value[LANES], 1, 2) or not is_integer_within(value[LATE], 1, 2):
        return False
    if value[CHILDREN] not in SENDINGS or value[PARENTS] not in SENDINGS:
        return False
    if not all([isinstance(value[at], bool) for at in (TELLS_VALUE, TELLS_CHILDREN, LOOKS_AGAIN)]):
        return False
    return value[ANEW] in BEGINNINGS_ANEW


def all_plans(lanes, late, anew):
    """Return, in ascending order, all plans with these lanes, late and anew."""
    return [
        (lanes, late, children, parents, tells_value, tells_children, looks_again, anew)
        for children in SENDINGS
        for parents in SENDINGS
        for tells_value in BOOLS
        for tells_children in BOOLS
        for looks_again in BOOLS
    ]
