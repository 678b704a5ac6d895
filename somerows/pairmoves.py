"""Pair moves: where the steps of pair standings lead.

A pair standing is (source, first copy, second copy, lanes); a place of a lane has a
message by each of the two plans.
"""

from somerows.copies import received
from somerows.messages import messages_of
from somerows.plans import ANEW
from somerows.sources import after_commit, commits, wished
from somerows.standings import empty_lanes, have_room, with_messages, without_first


def places_of(case, first, second, source, commit):
    """Return, for each lane, the place that the commit of the source takes, or None."""
    # Both plans have the same lanes, so that a commit touches the same ones by both.
    told = list(zip(
        messages_of(case, first, source, commit),
        messages_of(case, second, source, commit)))
    return tuple([None if place[0] is None else place for place in told])


def after_pair_places(standing, source, places):
    """Return the pair standing after a commit that leads to this source and takes these places."""
    return source, standing[1], standing[2], with_messages(standing[3], places)


def after_pair_delivery(case, first, second, standing, lane):
    """Return the pair standing after the lane has delivered its first place."""
    source, copy, other, lanes = standing
    message, other_message = lanes[lane][0]
    copy = received(case, first, copy, message)
    other = received(case, second, other, other_message)
    return source, copy, other, without_first(lanes, lane)


def after_pair_anew(case, first, standing):
    """Return the pair standing after both copies have been begun anew."""
    source = standing[0]
    lanes = empty_lanes(first) if first[ANEW] == "cut" else standing[3]
    right = wished(case, source)
    return source, right, right, lanes


class PairMoves:
    """The steps of pair standings; what each source allows is worked out once."""

    def __init__(self, case, first, second):
        self.case = case
        self.first = first
        self.second = second
        self.turns = {}

    def turns_at(self, source):
        """Return (commit, source after it, its places) for all commits of the source, ascending."""
        if source not in self.turns:
            self.turns[source] = [
                (commit, after_commit(source, commit),
                 places_of(self.case, self.first, self.second, source, commit))
                for commit in commits(self.case, source)
            ]
        return self.turns[source]

    def of_standing(self, standing):
        """Return (step, pair standing after it) for all steps of the pair standing, ascending."""
        case, first, second = self.case, self.first, self.second
        lanes = standing[3]
        moves = []
        if first[ANEW] != "never":
            moves.append((("anew",), after_pair_anew(case, first, standing)))
        for commit, source, places in self.turns_at(standing[0]):
            if have_room(first, lanes, places):
                moves.append((("commit", commit), after_pair_places(standing, source, places)))
        for lane, waiting in enumerate(lanes):
            if waiting != ():
                later = after_pair_delivery(case, first, second, standing, lane)
                moves.append((("deliver", lane), later))
        return moves
