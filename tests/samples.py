"""Values that several tests use."""

import itertools

SMALL = (1, 2, 1, ((0, 1),), False)
PAIR = (2, 2, 1, ((0, 1),), False)


def nested(depth):
    """Return a tuple in a tuple and so on, as deep as given."""
    value = ()
    for _ in range(depth - 1):
        value = (value,)
    return value


# Values that are neither a case nor a source, nor any part of one.
STRANGE_VALUES = [
    None,
    '',
    'parent',
    [],
    {},
    [()],
    {0: 1},
    {(): ()},
    10 ** 60 - 1,
    1 - 10 ** 60,
    nested(20),
    (None,),
    (0,),
    (0, 0, 0, 0),
    (((), ()), ()),
    ('a', 1, None, [], {}),
    tuple(range(19_999)),
    list(range(19_999)),
    ((0, 0),) * 6_000,
    'x' * 10_000,
]


def with_part(value, at, part):
    """Return the tuple with another part at one index."""
    return value[:at] + (part,) + value[at + 1:]


def listed(value):
    """Return the value with a list for each tuple in it."""
    if isinstance(value, tuple):
        return [listed(part) for part in value]
    return value


def all_tests(values, kinds):
    """Return every ascending tuple of different pairs."""
    pairs = list(itertools.product(range(kinds), range(values)))
    return [test for size in range(len(pairs) + 1) for test in itertools.combinations(pairs, size)]


def all_shapes():
    """Return (n, values, kinds, joint) of every case."""
    return list(itertools.product((1, 2, 3), (1, 2, 3), (1, 2), (False, True)))


def all_cases():
    """Return every case that there is."""
    return [(n, values, kinds, test, joint)
            for n, values, kinds, joint in all_shapes()
            for test in all_tests(values, kinds)]


def all_sources(n, values, kinds):
    """Return every source of cases with these numbers."""
    found = []
    for parents in itertools.product(range(-1, values), repeat=n):
        found.append((parents, ()))
        found.extend((parents, (kind, p))
                     for kind in range(kinds) for p in range(n) if parents[p] >= 0)
    return found
