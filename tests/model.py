"""A second working out of points [7] to [16], which the package is compared with.

It says the same in another way: rows by their names, entries as they are told.
"""

import itertools
from collections import namedtuple

from somerows.sources import commits

Case = namedtuple('Case', 'n values kinds test joint')
Plan = namedtuple('Plan', 'lanes late children parents tells_value tells_children looks_again anew')


def rows_of(state):
    """Return the rows of a source or a copy that are not absent, by their names."""
    parents, child = state
    rows = {p: value for p, value in enumerate(parents) if value != -1}
    if child:
        rows['child'] = child
    return rows


def state_of(case, rows):
    """Return the source or the copy that has these rows."""
    return tuple(rows.get(p, -1) for p in range(Case(*case).n)), rows.get('child', ())


def passing_names(case, source):
    """Return the names of the rows of the source that pass."""
    rows = rows_of(source)
    names = {p for p in rows if p != 'child' and any(rows[p] == value for _, value in case[3])}
    if 'child' in rows:
        kind, p = rows['child']
        if any((kind, rows[p]) == pair for pair in case[3]):
            names.add('child')
    return names


def source_after(case, source, commit):
    rows = rows_of(source)
    for change in commit:
        name = change[1] if change[0] == 'parent' else 'child'
        rows.pop(name, None)
        if change[-1] not in (-1, ()):
            rows[name] = change[-1]
    return state_of(case, rows)


def entries(case, plan, source, commit):
    """Return (word of the lane, entry or None) for each change of the commit."""
    plan = Plan(*plan)
    later = source_after(case, source, commit)
    before, now = passing_names(case, source), passing_names(case, later)
    rows = rows_of(later)
    told = []
    for change in commit:
        word, name = change[0], change[1] if change[0] == 'parent' else 'child'
        sending = plan.parents if word == 'parent' else plan.children
        counted = {'all': {name}, 'either': before | now, 'now': now}[sending]
        if word == 'parent':
            refers = plan.tells_children and 'child' in rows and rows['child'][1] == name
            entry = change + ((rows['child'][0],) if refers else (),)
        else:
            value = rows[rows['child'][1]] if plan.tells_value and 'child' in rows else -1
            entry = change + (value,)
        told.append((word, entry if name in counted else None))
    return told


def messages(case, plan, source, commit):
    told = entries(case, plan, source, commit)
    lanes = [('parent', 'child')] if Plan(*plan).lanes == 1 else [('parent',), ('child',)]
    touched = [[entry for word, entry in told if word in words] for words in lanes]
    return tuple(tuple(entry for entry in lane if entry is not None) if lane else None
                 for lane in touched)


def received(case, plan, copy, message):
    plan, pairs = Plan(*plan), set(case[3])
    rows = rows_of(copy)

    def put(name, row, passes):
        rows.pop(name, None)
        if passes:
            rows[name] = row

    for word, *rest in message:
        if word == 'parent':
            p, state, told = rest
            put(p, state, state in {value for _, value in pairs})
            for kind in told:
                put('child', (kind, p), (kind, state) in pairs)
            if plan.looks_again and rows.get('child', (0, None))[1] == p:
                put('child', rows['child'], (rows['child'][0], state) in pairs)
        else:
            state, value = rest
            if not plan.tells_value:
                value = rows.get(state[1]) if state else None
            put('child', state, state and (state[0], value) in pairs)
    return state_of(case, rows)


def wished_rows(case, source):
    """Return the rows that the copy should have, by their names."""
    names = passing_names(case, source)
    return {name: row for name, row in rows_of(source).items() if name in names}


def beginning(case, plan):
    absent = state_of(case, {})
    return absent, absent, tuple(() for _ in range(Plan(*plan).lanes)), 0


def after(case, plan, standing, step):
    """Return the standing after a step that may be taken."""
    source, copy, lanes, mark = standing
    lanes = [list(lane) for lane in lanes]
    later_source, later_copy = source, copy
    if step[0] == 'commit':
        for lane, message in zip(lanes, messages(case, plan, source, step[1])):
            if message is not None:
                lane.append(message)
        later_source = source_after(case, source, step[1])
    elif step[0] == 'deliver':
        later_copy = received(case, plan, copy, lanes[step[1]].pop(0))
    else:
        later_copy = state_of(case, wished_rows(case, source))
        if Plan(*plan).anew == 'cut':
            lanes = [[] for _ in lanes]
    passed = 'child' in passing_names(case, source)
    passes = 'child' in passing_names(case, later_source)
    had, has = 'child' in rows_of(copy), 'child' in rows_of(later_copy)
    later_mark = 0
    if has and passes and (mark == 1 or not had):
        later_mark = 1
    if not has and passed and passes and mark == 1:
        later_mark = 2
    return later_source, later_copy, tuple(map(tuple, lanes)), later_mark


def steps(case, plan, standing):
    source, _, lanes, _ = standing
    found = [('anew',)] if Plan(*plan).anew != 'never' else []
    found += [('deliver', lane) for lane, waiting in enumerate(lanes) if waiting]
    for commit in commits(case, source):
        step = 'commit', commit
        later = after(case, plan, standing, step)
        if all(len(waiting) <= Plan(*plan).late for waiting in later[2]):
            found.append(step)
    return sorted(found)


def faults(case, standing):
    source, copy, lanes, mark = standing
    wanted, have = wished_rows(case, source), rows_of(copy)
    found = {'blinks'} if mark == 2 else set()
    if 'child' in have and have['child'][1] not in have:
        found.add('dangles')
    if not any(lanes):
        if any(have.get(name) != row for name, row in wanted.items()):
            found.add('lacks')
        if any(name not in wanted for name in have):
            found.add('left')
    return tuple(sorted(found))


def distances(case, plan):
    """Return all standings that steps lead to, each with the fewest steps that do."""
    found = {beginning(case, plan): 0}
    queue = list(found)
    for standing in queue:
        for step in steps(case, plan, standing):
            later = after(case, plan, standing, step)
            if later not in found:
                found[later] = found[standing] + 1
                queue.append(later)
    return found


def possible_messages(case, plan):
    """Return, for each lane, the set of the messages that commits of all sources can give."""
    found = [set() for _ in range(Plan(*plan).lanes)]
    for source in every_source(case):
        for commit in commits(case, source):
            for lane, message in enumerate(messages(case, plan, source, commit)):
                found[lane] |= {message} - {None}
    return found


def every_source(case):
    """Return all sources: those that commits lead to, as all absent can become any."""
    found = {state_of(case, {}): True}
    queue = list(found)
    for source in queue:
        for commit in commits(case, source):
            later = source_after(case, source, commit)
            if later not in found:
                found[later] = True
                queue.append(later)
    return queue


def is_faulty(case, words, standing):
    return bool(set(words) & set(faults(case, standing)))


def fewest(case, words, distances):
    """Return the fewest steps that lead to a fault of the words, or None if none do."""
    return min((number for standing, number in distances.items()
                if is_faulty(case, words, standing)), default=None)


def laters(case, plan, standing):
    return [after(case, plan, standing, step) for step in steps(case, plan, standing)]


def holds_as_table(case, plan, words, value):
    """Return whether a tuple of standings is a table, by its definition alone."""
    known = set(value)
    return (list(value) == sorted(known) and beginning(case, plan) in known
            and not any(is_faulty(case, words, standing) for standing in known)
            and all(known.issuperset(laters(case, plan, standing)) for standing in known))


def holds_as_history(case, plan, words, value):
    """Return whether a tuple of steps of any standings is a history."""
    standing = beginning(case, plan)
    for at, step in enumerate(value):
        if step not in steps(case, plan, standing):
            return False
        standing = after(case, plan, standing, step)
        if is_faulty(case, words, standing):
            return at == len(value) - 1
    return False


def holds_as_layers(case, plan, words, number, value):
    """Return whether a dict from standings to integers is layers that reach the number."""
    greatest = max(value.values(), default=-1)
    lower = [standing for standing, own in value.items() if own < greatest]
    return (min(value.values(), default=-1) >= 0 and greatest >= number
            and value.get(beginning(case, plan)) == 0
            and not any(is_faulty(case, words, standing) for standing in lower)
            and all(later in value and value[later] - value[standing] <= 1
                    for standing in lower for later in laters(case, plan, standing)))


def along(start, value, steps, after):
    """Return the standings along a value of any kind, or None if it is no tuple of steps."""
    if type(value) is not tuple:
        return None
    standings = [start]
    for step in value:
        # Python takes 1 and True as equal, their texts tell them apart.
        if repr(step) not in map(repr, steps(standings[-1])):
            return None
        standings.append(after(standings[-1], step))
    return standings


def along_path(case, plan, value, start=None):
    """Return the standings along a value of any kind, or None if it is no path."""
    return along(start or beginning(case, plan), value,
                 lambda standing: steps(case, plan, standing),
                 lambda standing, step: after(case, plan, standing, step))


def is_closed(start, value, valid, laters):
    """Return whether a value of any kind is a closed tuple of standings.

    valid has the texts of all standings that there can be.
    """
    if type(value) is not tuple or not all(repr(standing) in valid for standing in value):
        return False
    known = set(value)
    return (list(value) == sorted(known) and start in known
            and all(known.issuperset(laters(standing)) for standing in known))


def every_lane(items, late):
    return [lane for many in range(late + 1) for lane in itertools.product(items, repeat=many)]


def every_copy(case):
    n, _, kinds, test, _ = case
    kept = {-1} | {value for _, value in test}
    children = [()] + list(itertools.product(range(kinds), range(n)))
    return list(itertools.product(itertools.product(kept, repeat=n), children))


def every_standing(case, plan):
    """Return all standings that there can be, also those that no steps lead to."""
    lanes = [every_lane(messages, plan[1]) for messages in possible_messages(case, plan)]
    return list(itertools.product(every_source(case), every_copy(case),
                                  itertools.product(*lanes), (0, 1, 2)))


# Points [13] to [16].

def safe_words(case, plan):
    found = {word for standing in distances(case, plan) for word in faults(case, standing)}
    return tuple(word for word in ('blinks', 'dangles', 'lacks', 'left') if word not in found)


def split(standing):
    """Return what each plan of a pair standing has alone."""
    source, first, second, lanes = standing
    return [(source, copy, tuple(tuple(place[at] for place in lane) for lane in lanes), 0)
            for at, copy in enumerate((first, second))]


def pair_beginning(case, first, second):
    source, copy, lanes, _ = beginning(case, first)
    return source, copy, copy, lanes


def pair_steps(case, first, second, standing):
    one, two = split(standing)
    found = steps(case, first, one)
    assert found == steps(case, second, two)
    return found


def after_pair(case, first, second, standing, step):
    one, two = split(standing)
    one, two = after(case, first, one, step), after(case, second, two, step)
    lanes = tuple(tuple(zip(*pair)) for pair in zip(one[2], two[2]))
    return one[0], one[1], two[1], lanes


def pair_laters(case, first, second, standing):
    return [after_pair(case, first, second, standing, step)
            for step in pair_steps(case, first, second, standing)]


def pair_distances(case, first, second):
    """Return all pair standings that steps lead to before the copies differ, and the first where
    they do, each with the fewest steps.
    """
    found = {pair_beginning(case, first, second): 0}
    queue = list(found)
    for standing in queue:
        if standing[1] != standing[2]:
            continue
        for later in pair_laters(case, first, second, standing):
            if later not in found:
                found[later] = found[standing] + 1
                queue.append(later)
    return found


def fewest_to_part(distances):
    """Return the fewest steps of a parting, or None if there is none."""
    return min((number for standing, number in distances.items() if standing[1] != standing[2]),
               default=None)


def along_pair(case, first, second, value):
    return along(pair_beginning(case, first, second), value,
                 lambda standing: pair_steps(case, first, second, standing),
                 lambda standing, step: after_pair(case, first, second, standing, step))


def holds_as_parting(case, first, second, value):
    """Return whether a value of any kind is a parting, by its definition alone."""
    standings = along_pair(case, first, second, value)
    if standings is None:
        return False
    differ = [standing[1] != standing[2] for standing in standings]
    return differ.index(True) == len(differ) - 1 if True in differ else False


def every_pair_standing(case, first, second):
    """Return all pair standings that there can be, also those that no steps lead to."""
    places = [set() for _ in range(first[0])]
    for source in every_source(case):
        for commit in commits(case, source):
            told = zip(messages(case, first, source, commit), messages(case, second, source, commit))
            for lane, place in enumerate(told):
                places[lane] |= {place} - {(None, None)}
    lanes = [every_lane(found, first[1]) for found in places]
    copies = every_copy(case)
    return list(itertools.product(every_source(case), copies, copies, itertools.product(*lanes)))


def holds_as_pair_table(case, first, second, valid, value):
    """Return whether a value of any kind is a pair table; valid has all texts of standings."""
    return (is_closed(pair_beginning(case, first, second), value, valid,
                      lambda standing: pair_laters(case, first, second, standing))
            and all(standing[1] == standing[2] for standing in value))


def sight(standing):
    return standing[1], tuple(map(len, standing[2]))


def outcomes(case, plan, standing):
    """Return the copies after all deliveries in every order, each order by itself."""
    orders = {()}
    for lane, waiting in enumerate(standing[2]):
        for _ in waiting:
            orders = {order[:at] + (lane,) + order[at:]
                      for order in orders for at in range(len(order) + 1)}
    found = set()
    for order in orders:
        later = standing
        for lane in order:
            later = after(case, plan, later, ('deliver', lane))
        found.add(later[1])
    return sorted(found)


def without_anew(plan):
    return plan[:7] + ('never',)


def is_mended(case, standing, later):
    source, copy, lanes, _ = later
    return (source == standing[0] and not any(lanes)
            and rows_of(copy) == wished_rows(case, source))


def mending_distances(case, plan, standing):
    """Return all standings that commits and deliveries lead to, each with the fewest steps."""
    calm = without_anew(plan)
    found = {standing: 0}
    queue = [standing]
    for before in queue:
        for later in laters(case, calm, before):
            if later not in found:
                found[later] = found[before] + 1
                queue.append(later)
    return found


def fewest_to_mend(case, standing, distances):
    return min((number for later, number in distances.items()
                if is_mended(case, standing, later)), default=None)


def holds_as_mending(case, plan, standing, value):
    """Return whether a value of any kind is a mending, by its definition alone."""
    standings = along_path(case, without_anew(plan), value, standing)
    return standings is not None and is_mended(case, standing, standings[-1])


def holds_as_hopeless(case, plan, standing, valid, value):
    """Return whether a value of any kind is a hopeless set; valid has all texts of standings."""
    calm = without_anew(plan)
    return (is_closed(standing, value, valid, lambda later: laters(case, calm, later))
            and not any(is_mended(case, standing, later) for later in value))
