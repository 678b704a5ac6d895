"""A second working out of points [17] and [18], which feeds are compared with.

It holds the rows of all children beside each other, as the words of [17] go, and makes
no use of the package; what of it is own to a child is worked out when it is asked for.
"""

import copy
import random

import model


class FeedModel:
    def __init__(self, case, plan, c):
        self.case, self.plan = model.Case(*case), model.Plan(*plan)
        self.parents, self.children = [-1] * self.case.n, [()] * c
        self.kept_parents, self.kept_children = [-1] * self.case.n, [()] * c
        self.lanes = [[] for _ in range(self.plan.lanes)]
        self.marks = [0] * c
        self.log = []
        # For each child the steps that it has, and how many it had after each call.
        self.steps = [[] for _ in range(c)]
        self.earlier = []

    def value_passes(self, value):
        return any(value == other for _, other in self.case.test)

    def child_passes(self, k):
        child = self.children[k]
        return bool(child) and (child[0], self.parents[child[1]]) in self.case.test

    def changes(self):
        """Return the changes of parents and those of children that there are now."""
        parents = [('parent', p, state) for p, old in enumerate(self.parents)
                   for state in range(-1, self.case.values) if state != old]
        states = [()] + [(kind, p) for kind in range(self.case.kinds) for p in range(self.case.n)]
        children = [('child', k, state) for k, old in enumerate(self.children)
                    for state in states if state != old]
        return parents, children

    def changed(self, changes):
        """Return (parents, children) after the changes."""
        parents, children = list(self.parents), list(self.children)
        for word, number, state in changes:
            (parents if word == 'parent' else children)[number] = state
        return parents, children

    def commits(self):
        """Return all commits of the feed, also those for which there is no place."""
        parents, children = self.changes()
        tried = [(change,) for change in parents + children]
        if self.case.joint:
            tried += [(first, second) for first in parents for second in children]
        found = []
        for changes in tried:
            later, referring = self.changed(changes)
            if all(not child or later[child[1]] != -1 for child in referring):
                found.append(changes)
        return found

    def lane_of(self, word):
        return 0 if self.plan.lanes == 1 or word == 'parent' else 1

    def touched(self, changes):
        return sorted({self.lane_of(word) for word, _, _ in changes})

    def full_lane(self, changes):
        """Return the least lane that the commit touches and that is full, or None."""
        return next((lane for lane in self.touched(changes)
                     if len(self.lanes[lane]) == self.plan.late), None)

    def own(self, changes, k):
        """Return the own part of child k."""
        return tuple((word,) + ((state,) if word == 'child' else (number, state))
                     for word, number, state in changes if word == 'parent' or number == k)

    def is_own(self, lane, place, k):
        return lane in {self.lane_of(change[0]) for change in self.own(place[0], k)}

    def commit(self, changes):
        messages = {lane: [] for lane in self.touched(changes)}
        earlier = list(self.parents), [self.child_passes(k) for k in range(len(self.children))]
        before = self.before()
        self.parents, self.children = self.changed(changes)
        for word, number, state in changes:
            if word == 'parent':
                passed, passes = map(self.value_passes, (earlier[0][number], state))
                told = tuple((k, child[0]) for k, child in enumerate(self.children)
                             if child and child[1] == number and self.plan.tells_children)
                entry, sending = ('parent', number, state, told), self.plan.parents
            else:
                passed, passes = earlier[1][number], self.child_passes(number)
                value = self.parents[state[1]] if state and self.plan.tells_value else -1
                entry, sending = ('child', number, state, value), self.plan.children
            if {'all': True, 'either': passed or passes, 'now': passes}[sending]:
                messages[self.lane_of(word)].append(entry)
        for lane, message in messages.items():
            self.lanes[lane].append((changes, tuple(message)))
        self.end(('commit', changes), before, [
            [('commit', self.own(changes, k))] if self.own(changes, k) else []
            for k in range(len(self.children))])

    def deliver(self, lane):
        before = self.before()
        place = self.lanes[lane].pop(0)
        for entry in place[1]:
            self.receive(entry)
        self.end(('deliver', lane), before, [
            [('deliver', lane)] if self.is_own(lane, place, k) else []
            for k in range(len(self.children))])

    def receive(self, entry):
        """Let the copy receive an entry."""
        if entry[0] == 'child':
            _, k, state, value = entry
            if state:
                known = value if self.plan.tells_value else self.kept_parents[state[1]]
                state = state if (state[0], known) in self.case.test else ()
            self.kept_children[k] = state
            return
        _, p, state, told = entry
        self.kept_parents[p] = state if self.value_passes(state) else -1
        for k, kind in told:
            self.kept_children[k] = (kind, p) if (kind, state) in self.case.test else ()
        for k, child in enumerate(self.kept_children):
            if self.plan.looks_again and child and child[1] == p:
                if (child[0], state) not in self.case.test:
                    self.kept_children[k] = ()

    def begin_anew(self):
        before = self.before()
        self.kept_parents = [state if self.value_passes(state) else -1 for state in self.parents]
        self.kept_children = [child if self.child_passes(k) else ()
                              for k, child in enumerate(self.children)]
        if self.plan.anew == 'cut':
            self.lanes = [[] for _ in self.lanes]
        self.end(('anew',), before, [[('anew',)]] * len(self.children))

    def before(self):
        """Keep what undo needs, and return (has it, passes) for each child."""
        kept = {name: copy.deepcopy(value) for name, value in vars(self).items()
                if name != 'earlier'}
        self.earlier.append(kept)
        return [(child != (), self.child_passes(k)) for k, child in enumerate(self.kept_children)]

    def end(self, call, before, own_steps):
        """Set the marks of the children whose step it is, and write the log."""
        for k, steps in enumerate(own_steps):
            if not steps:
                continue
            had, passed = before[k]
            has, passes = self.kept_children[k] != (), self.child_passes(k)
            mark = self.marks[k]
            self.marks[k] = 0
            if has and passes and (mark == 1 or not had):
                self.marks[k] = 1
            if not has and mark == 1 and passed and passes:
                self.marks[k] = 2
            self.steps[k] += steps
        self.log.append((call, self.fault_words()))

    def undo(self):
        if not self.log:
            return None
        call = self.log[-1][0]
        kept, earlier = self.earlier[-1], self.earlier[:-1]
        vars(self).update(copy.deepcopy(kept), earlier=earlier)
        return call

    def source(self):
        return tuple(self.parents), tuple(self.children)

    def copy(self):
        return tuple(self.kept_parents), tuple(self.kept_children)

    def under_way(self):
        return tuple(map(tuple, self.lanes))

    def own_message(self, message, k):
        found = []
        for entry in message:
            if entry[0] == 'parent':
                found.append(entry[:3] + (tuple(kind for at, kind in entry[3] if at == k),))
            elif entry[1] == k:
                found.append(('child',) + entry[2:])
        return tuple(found)

    def standing_of(self, k):
        lanes = tuple(tuple(self.own_message(place[1], k) for place in places
                            if self.is_own(lane, place, k))
                      for lane, places in enumerate(self.lanes))
        return ((tuple(self.parents), self.children[k]),
                (tuple(self.kept_parents), self.kept_children[k]), lanes, self.marks[k])

    def fault_words(self):
        return tuple(model.faults(self.case, self.standing_of(k))
                     for k in range(len(self.children)))

    def calls(self):
        """Return all calls that the feed may make now."""
        found = [('anew',)] if self.plan.anew != 'never' else []
        found += [('deliver', lane) for lane, places in enumerate(self.lanes) if places]
        return found + [('commit', changes) for changes in self.commits()
                        if self.full_lane(changes) is None]


def make(feed, call):
    """Make the call of a feed or of the model."""
    if call[0] == 'commit':
        return feed.commit(call[1])
    return feed.deliver(call[1]) if call[0] == 'deliver' else feed.begin_anew()


def some_call(feed, chance):
    """Return one of the calls that the model may make, deliveries as often as commits."""
    found = feed.calls()
    word = chance.choice(sorted({call[0] for call in found} - {'anew'}))
    if chance.random() < 0.05:
        word = found[0][0]
    return chance.choice([call for call in found if call[0] == word])


def told_by(feed, c):
    """Return all that a feed or the model tells."""
    return (feed.source(), feed.copy(), feed.under_way(), feed.fault_words(),
            [feed.standing_of(k) for k in range(c)])


def random_run(case, plan, c, length, seed):
    """Return the model after so many calls that chance takes."""
    chance = random.Random(seed)
    feed = FeedModel(case, plan, c)
    for _ in range(length):
        make(feed, some_call(feed, chance))
    return feed
