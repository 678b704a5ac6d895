"""Feeds: a source and a copy with several children, and what is under way between them."""

from somerows.cases import is_integer_within
from somerows.errors import InvalidCommit, LaneFull, NeverAnew, NothingThere
from somerows.faults import faults
from somerows.feedcommits import feed_messages, is_feed_commit, is_own_place, own_part
from somerows.plans import ANEW, LANES, LATE
from somerows.standings import after, beginning, empty_lanes, with_messages, without_first


class Feed:
    """A feed for a case and a plan, with c children."""

    def __init__(self, case, plan, c):
        self.case = case
        self.plan = plan
        # Each child's standing goes its own way by the calls that are steps of it; the
        # parents in all of them are the same.
        self.standings = (beginning(case, plan),) * c
        self.lanes = empty_lanes(plan)
        # For each call that was not taken back, (call, fault words after it) and the
        # (standings, lanes) before it.
        self.entries = []
        self.earlier = []

    def commit(self, changes):
        """Change the source, and send what there is to be told."""
        if not is_feed_commit(self.case, self.source(), changes):
            raise InvalidCommit(changes)
        messages = feed_messages(self.case, self.plan, self.source(), changes)
        for lane, waiting in enumerate(self.lanes):
            if messages[lane] is not None and len(waiting) >= self.plan[LATE]:
                raise LaneFull(lane)
        places = [None if message is None else (changes, message) for message in messages]
        steps_taken = [
            None if own_part(changes, k) == () else ("commit", own_part(changes, k))
            for k in range(len(self.standings))
        ]
        self._go(("commit", changes), steps_taken, with_messages(self.lanes, places))

    def deliver(self, lane):
        """Let the copy receive the first message of the lane."""
        if not is_integer_within(lane, 0, self.plan[LANES] - 1) or self.lanes[lane] == ():
            raise NothingThere(lane)
        changes, _ = self.lanes[lane][0]
        steps_taken = [
            ("deliver", lane) if is_own_place(self.plan, lane, changes, k) else None
            for k in range(len(self.standings))
        ]
        self._go(("deliver", lane), steps_taken, without_first(self.lanes, lane))

    def begin_anew(self):
        """Make the copy what is wished of the source now."""
        if self.plan[ANEW] == "never":
            raise NeverAnew()
        lanes = empty_lanes(self.plan) if self.plan[ANEW] == "cut" else self.lanes
        self._go(("anew",), [("anew",)] * len(self.standings), lanes)

    def _go(self, call, steps_taken, lanes):
        """Make the call, which is this step or none (None) of each child and leaves these lanes."""
        self.earlier.append((self.standings, self.lanes))
        self.standings = tuple([
            standing if step is None else after(self.case, self.plan, standing, step)
            for standing, step in zip(self.standings, steps_taken)
        ])
        self.lanes = lanes
        self.entries.append((call, self.fault_words()))

    def source(self):
        """Return the source, (parents, children)."""
        return self._rows(0)

    def copy(self):
        """Return the copy, (parents, children)."""
        return self._rows(1)

    def _rows(self, at):
        """Return the parents and the children of all sources (0) or of all copies (1)."""
        parents = self.standings[0][at][0]
        return parents, tuple([standing[at][1] for standing in self.standings])

    def under_way(self):
        """Return the lanes, each a tuple of its places (changes, message)."""
        return self.lanes

    def standing_of(self, k):
        """Return the standing of child k."""
        return self.standings[k]

    def fault_words(self):
        """Return a tuple with the fault words of each child."""
        return tuple([faults(self.case, standing) for standing in self.standings])

    def undo(self):
        """Take back the last call that was not taken back and return it, or None."""
        if not self.entries:
            return None
        call, _ = self.entries.pop()
        self.standings, self.lanes = self.earlier.pop()
        return call

    def __len__(self):
        return len([place for waiting in self.lanes for place in waiting])

    def __eq__(self, other):
        if not isinstance(other, Feed):
            return False
        # The standings have the sources, the copies and the marks of all children.
        return (self.case == other.case and self.plan == other.plan
                and self.standings == other.standings and self.lanes == other.lanes)
