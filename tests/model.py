"""A second working out of points [7] and [8], which the package is compared with.

It says the same in another way: rows by their names, entries as they are told.
"""

from collections import namedtuple

Case = namedtuple('Case', 'n values kinds test joint')
Plan = namedtuple('Plan', 'lanes late children parents tells_value tells_children looks_again anew')


def rows_of(state):
    """Return the rows of a source or a copy that are not absent, by their names."""
    parents, child = state
    rows = {p: value for p, value in enumerate(parents) if value != -1}
    if child:
        rows['child'] = child
    return rows


def state_of(case, rows):
    """Return the source or the copy that has these rows."""
    return tuple(rows.get(p, -1) for p in range(Case(*case).n)), rows.get('child', ())


def passing_names(case, source):
    """Return the names of the rows of the source that pass."""
    rows = rows_of(source)
    names = {p for p in rows if p != 'child' and any(rows[p] == value for _, value in case[3])}
    if 'child' in rows:
        kind, p = rows['child']
        if any((kind, rows[p]) == pair for pair in case[3]):
            names.add('child')
    return names


def source_after(case, source, commit):
    rows = rows_of(source)
    for change in commit:
        name = change[1] if change[0] == 'parent' else 'child'
        rows.pop(name, None)
        if change[-1] not in (-1, ()):
            rows[name] = change[-1]
    return state_of(case, rows)


def entries(case, plan, source, commit):
    """Return (word of the lane, entry or None) for each change of the commit."""
    plan = Plan(*plan)
    later = source_after(case, source, commit)
    before, now = passing_names(case, source), passing_names(case, later)
    rows = rows_of(later)
    told = []
    for change in commit:
        word, name = change[0], change[1] if change[0] == 'parent' else 'child'
        sending = plan.parents if word == 'parent' else plan.children
        counted = {'all': {name}, 'either': before | now, 'now': now}[sending]
        if word == 'parent':
            refers = plan.tells_children and 'child' in rows and rows['child'][1] == name
            entry = change + ((rows['child'][0],) if refers else (),)
        else:
            value = rows[rows['child'][1]] if plan.tells_value and 'child' in rows else -1
            entry = change + (value,)
        told.append((word, entry if name in counted else None))
    return told


def messages(case, plan, source, commit):
    told = entries(case, plan, source, commit)
    lanes = [('parent', 'child')] if Plan(*plan).lanes == 1 else [('parent',), ('child',)]
    touched = [[entry for word, entry in told if word in words] for words in lanes]
    return tuple(tuple(entry for entry in lane if entry is not None) if lane else None
                 for lane in touched)


def received(case, plan, copy, message):
    plan, pairs = Plan(*plan), set(case[3])
    rows = rows_of(copy)

    def put(name, row, passes):
        rows.pop(name, None)
        if passes:
            rows[name] = row

    for word, *rest in message:
        if word == 'parent':
            p, state, told = rest
            put(p, state, state in {value for _, value in pairs})
            for kind in told:
                put('child', (kind, p), (kind, state) in pairs)
            if plan.looks_again and rows.get('child', (0, None))[1] == p:
                put('child', rows['child'], (rows['child'][0], state) in pairs)
        else:
            state, value = rest
            if not plan.tells_value:
                value = rows.get(state[1]) if state else None
            put('child', state, state and (state[0], value) in pairs)
    return state_of(case, rows)
