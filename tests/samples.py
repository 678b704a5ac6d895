"""Values that several tests use."""

import itertools

SMALL = (1, 2, 1, ((0, 1),), False)
PAIR = (2, 2, 1, ((0, 1),), False)
JOINT = (1, 2, 1, ((0, 1),), True)
SAFE = (1, 1, 'all', 'all', True, True, True, 'never')
BARE = (2, 1, 'all', 'all', False, False, False, 'never')


def nested(depth):
    """Return a tuple in a tuple and so on, as deep as given."""
    value = ()
    for _ in range(depth - 1):
        value = (value,)
    return value


# Values that are neither a case nor a source, nor any part of one.
STRANGE_VALUES = [
    None,
    '',
    'parent',
    [],
    {},
    [()],
    {0: 1},
    {(): ()},
    10 ** 60 - 1,
    1 - 10 ** 60,
    nested(20),
    (None,),
    (0,),
    (0, 0, 0, 0),
    (((), ()), ()),
    ('a', 1, None, [], {}),
    tuple(range(19_999)),
    list(range(19_999)),
    ((0, 0),) * 6_000,
    'x' * 10_000,
]


def with_part(value, at, part):
    """Return the tuple with another part at one index."""
    return value[:at] + (part,) + value[at + 1:]


def listed(value):
    """Return the value with a list for each tuple in it."""
    if isinstance(value, tuple):
        return [listed(part) for part in value]
    return value


def other_kinds(value):
    """Return the value with each tuple as a list and each integer as a bool in it, one by one."""
    if isinstance(value, tuple):
        found = [list(value)]
        for at, part in enumerate(value):
            found.extend(with_part(value, at, other) for other in other_kinds(part))
        return found
    if isinstance(value, int) and value in (0, 1):
        return [bool(value)]
    return []


def differing(value):
    """Return what differs from a value built of tuples by one part, at any depth.

    A part is left out, put in, there twice, exchanged with the next one, another one or
    of another kind.
    """
    found = []
    if isinstance(value, tuple):
        found += [list(value), value + (0,), value + ((),), (None,) + value]
        for at, part in enumerate(value):
            found += [value[:at] + value[at + 1:], value[:at + 1] + value[at:],
                      value[:at] + value[at:at + 2][::-1] + value[at + 2:]]
            found += [with_part(value, at, other) for other in differing(part)]
    elif isinstance(value, str):
        found += ['', value + 's', value.upper(), None]
    else:
        found += [value - 1, value + 1, None, str(value)]
        found += [bool(value)] if value in (0, 1) else []
    return [other for other in found if repr(other) != repr(value)]


def all_tests(values, kinds):
    """Return every ascending tuple of different pairs."""
    pairs = list(itertools.product(range(kinds), range(values)))
    return [test for size in range(len(pairs) + 1) for test in itertools.combinations(pairs, size)]


def all_shapes():
    """Return (n, values, kinds, joint) of every case."""
    return list(itertools.product((1, 2, 3), (1, 2, 3), (1, 2), (False, True)))


def all_cases():
    """Return every case that there is."""
    return [(n, values, kinds, test, joint)
            for n, values, kinds, joint in all_shapes()
            for test in all_tests(values, kinds)]


def all_sources(n, values, kinds):
    """Return every source of cases with these numbers."""
    found = []
    for parents in itertools.product(range(-1, values), repeat=n):
        found.append((parents, ()))
        found.extend((parents, (kind, p))
                     for kind in range(kinds) for p in range(n) if parents[p] >= 0)
    return found


def every_plan(lanes=(1, 2), late=(1, 2), anew=('never', 'cut', 'kept')):
    """Return every plan, or only those with these lanes, late and anew."""
    words, flags = ('all', 'either', 'now'), (False, True)
    return list(itertools.product(lanes, late, words, words, flags, flags, flags, anew))


PLAN_PARTS = ('lanes', 'late', 'children', 'parents', 'tells_value', 'tells_children',
              'looks_again', 'anew')


def plan_with(plan, **parts):
    """Return the plan with other parts, given by their names."""
    for name, part in parts.items():
        plan = with_part(plan, PLAN_PARTS.index(name), part)
    return plan


def all_copies(case):
    """Return every copy of the case."""
    n, _, kinds, test, _ = case
    kept = [-1] + sorted({value for _, value in test})
    children = [()] + list(itertools.product(range(kinds), range(n)))
    return list(itertools.product(itertools.product(kept, repeat=n), children))


WORDS = ('blinks', 'dangles', 'lacks', 'left')


def every_words():
    """Return all words of faults, from none to all four."""
    return [words for size in range(5) for words in itertools.combinations(WORDS, size)]


# Cases whose parents, values and kinds multiply to at most 4.
SEARCHED = [
    SMALL, JOINT, PAIR,
    (1, 1, 1, ((0, 0),), False), (1, 2, 1, (), True), (1, 1, 2, ((1, 0),), True),
    (1, 3, 1, ((0, 1), (0, 2)), False), (1, 2, 2, ((0, 1), (1, 0)), False),
    (2, 1, 1, ((0, 0),), True), (2, 1, 2, ((0, 0),), False), (3, 1, 1, ((0, 0),), False),
]


def searched():
    """Return pairs of a case and a plan in which each part of a plan takes each value."""
    pairs = []
    for number, case in enumerate(SEARCHED):
        plans = every_plan(late=(1,) if case[0] > 1 else (1, 2))
        pairs.extend((case, plan) for plan in [SAFE, BARE] + plans[number * 7::97])
    return pairs
