"""A second working out of points [7] to [12], which the package is compared with.

It says the same in another way: rows by their names, entries as they are told.
"""

from collections import namedtuple

from somerows.sources import commits

Case = namedtuple('Case', 'n values kinds test joint')
Plan = namedtuple('Plan', 'lanes late children parents tells_value tells_children looks_again anew')


def rows_of(state):
    """Return the rows of a source or a copy that are not absent, by their names."""
    parents, child = state
    rows = {p: value for p, value in enumerate(parents) if value != -1}
    if child:
        rows['child'] = child
    return rows


def state_of(case, rows):
    """Return the source or the copy that has these rows."""
    return tuple(rows.get(p, -1) for p in range(Case(*case).n)), rows.get('child', ())


def passing_names(case, source):
    """Return the names of the rows of the source that pass."""
    rows = rows_of(source)
    names = {p for p in rows if p != 'child' and any(rows[p] == value for _, value in case[3])}
    if 'child' in rows:
        kind, p = rows['child']
        if any((kind, rows[p]) == pair for pair in case[3]):
            names.add('child')
    return names


def source_after(case, source, commit):
    rows = rows_of(source)
    for change in commit:
        name = change[1] if change[0] == 'parent' else 'child'
        rows.pop(name, None)
        if change[-1] not in (-1, ()):
            rows[name] = change[-1]
    return state_of(case, rows)


def entries(case, plan, source, commit):
    """Return (word of the lane, entry or None) for each change of the commit."""
    plan = Plan(*plan)
    later = source_after(case, source, commit)
    before, now = passing_names(case, source), passing_names(case, later)
    rows = rows_of(later)
    told = []
    for change in commit:
        word, name = change[0], change[1] if change[0] == 'parent' else 'child'
        sending = plan.parents if word == 'parent' else plan.children
        counted = {'all': {name}, 'either': before | now, 'now': now}[sending]
        if word == 'parent':
            refers = plan.tells_children and 'child' in rows and rows['child'][1] == name
            entry = change + ((rows['child'][0],) if refers else (),)
        else:
            value = rows[rows['child'][1]] if plan.tells_value and 'child' in rows else -1
            entry = change + (value,)
        told.append((word, entry if name in counted else None))
    return told


def messages(case, plan, source, commit):
    told = entries(case, plan, source, commit)
    lanes = [('parent', 'child')] if Plan(*plan).lanes == 1 else [('parent',), ('child',)]
    touched = [[entry for word, entry in told if word in words] for words in lanes]
    return tuple(tuple(entry for entry in lane if entry is not None) if lane else None
                 for lane in touched)


def received(case, plan, copy, message):
    plan, pairs = Plan(*plan), set(case[3])
    rows = rows_of(copy)

    def put(name, row, passes):
        rows.pop(name, None)
        if passes:
            rows[name] = row

    for word, *rest in message:
        if word == 'parent':
            p, state, told = rest
            put(p, state, state in {value for _, value in pairs})
            for kind in told:
                put('child', (kind, p), (kind, state) in pairs)
            if plan.looks_again and rows.get('child', (0, None))[1] == p:
                put('child', rows['child'], (rows['child'][0], state) in pairs)
        else:
            state, value = rest
            if not plan.tells_value:
                value = rows.get(state[1]) if state else None
            put('child', state, state and (state[0], value) in pairs)
    return state_of(case, rows)


def wished_rows(case, source):
    """Return the rows that the copy should have, by their names."""
    names = passing_names(case, source)
    return {name: row for name, row in rows_of(source).items() if name in names}


def beginning(case, plan):
    absent = state_of(case, {})
    return absent, absent, tuple(() for _ in range(Plan(*plan).lanes)), 0


def after(case, plan, standing, step):
    """Return the standing after a step that may be taken."""
    source, copy, lanes, mark = standing
    lanes = [list(lane) for lane in lanes]
    later_source, later_copy = source, copy
    if step[0] == 'commit':
        for lane, message in zip(lanes, messages(case, plan, source, step[1])):
            if message is not None:
                lane.append(message)
        later_source = source_after(case, source, step[1])
    elif step[0] == 'deliver':
        later_copy = received(case, plan, copy, lanes[step[1]].pop(0))
    else:
        later_copy = state_of(case, wished_rows(case, source))
        if Plan(*plan).anew == 'cut':
            lanes = [[] for _ in lanes]
    passed = 'child' in passing_names(case, source)
    passes = 'child' in passing_names(case, later_source)
    had, has = 'child' in rows_of(copy), 'child' in rows_of(later_copy)
    later_mark = 0
    if has and passes and (mark == 1 or not had):
        later_mark = 1
    if not has and passed and passes and mark == 1:
        later_mark = 2
    return later_source, later_copy, tuple(map(tuple, lanes)), later_mark


def steps(case, plan, standing):
    source, _, lanes, _ = standing
    found = [('anew',)] if Plan(*plan).anew != 'never' else []
    found += [('deliver', lane) for lane, waiting in enumerate(lanes) if waiting]
    for commit in commits(case, source):
        step = 'commit', commit
        later = after(case, plan, standing, step)
        if all(len(waiting) <= Plan(*plan).late for waiting in later[2]):
            found.append(step)
    return sorted(found)


def faults(case, standing):
    source, copy, lanes, mark = standing
    wanted, have = wished_rows(case, source), rows_of(copy)
    found = {'blinks'} if mark == 2 else set()
    if 'child' in have and have['child'][1] not in have:
        found.add('dangles')
    if not any(lanes):
        if any(have.get(name) != row for name, row in wanted.items()):
            found.add('lacks')
        if any(name not in wanted for name in have):
            found.add('left')
    return tuple(sorted(found))


def distances(case, plan):
    """Return all standings that steps lead to, each with the fewest steps that do."""
    found = {beginning(case, plan): 0}
    queue = list(found)
    for standing in queue:
        for step in steps(case, plan, standing):
            later = after(case, plan, standing, step)
            if later not in found:
                found[later] = found[standing] + 1
                queue.append(later)
    return found


def possible_messages(case, plan):
    """Return, for each lane, the set of the messages that commits of all sources can give."""
    found = [set() for _ in range(Plan(*plan).lanes)]
    for source in every_source(case):
        for commit in commits(case, source):
            for lane, message in enumerate(messages(case, plan, source, commit)):
                found[lane] |= {message} - {None}
    return found


def every_source(case):
    """Return all sources: those that commits lead to, as all absent can become any."""
    found = {state_of(case, {}): True}
    queue = list(found)
    for source in queue:
        for commit in commits(case, source):
            later = source_after(case, source, commit)
            if later not in found:
                found[later] = True
                queue.append(later)
    return queue


def is_faulty(case, words, standing):
    return bool(set(words) & set(faults(case, standing)))


def fewest(case, words, distances):
    """Return the fewest steps that lead to a fault of the words, or None if none do."""
    return min((number for standing, number in distances.items()
                if is_faulty(case, words, standing)), default=None)


def laters(case, plan, standing):
    return [after(case, plan, standing, step) for step in steps(case, plan, standing)]


def holds_as_table(case, plan, words, value):
    """Return whether a tuple of standings is a table, by its definition alone."""
    known = set(value)
    return (list(value) == sorted(known) and beginning(case, plan) in known
            and not any(is_faulty(case, words, standing) for standing in known)
            and all(known.issuperset(laters(case, plan, standing)) for standing in known))


def holds_as_history(case, plan, words, value):
    """Return whether a tuple of steps of any standings is a history."""
    standing = beginning(case, plan)
    for at, step in enumerate(value):
        if step not in steps(case, plan, standing):
            return False
        standing = after(case, plan, standing, step)
        if is_faulty(case, words, standing):
            return at == len(value) - 1
    return False


def holds_as_layers(case, plan, words, number, value):
    """Return whether a dict from standings to integers is layers that reach the number."""
    greatest = max(value.values(), default=-1)
    lower = [standing for standing, own in value.items() if own < greatest]
    return (min(value.values(), default=-1) >= 0 and greatest >= number
            and value.get(beginning(case, plan)) == 0
            and not any(is_faulty(case, words, standing) for standing in lower)
            and all(later in value and value[later] - value[standing] <= 1
                    for standing in lower for later in laters(case, plan, standing)))
