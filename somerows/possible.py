"""Which messages the commits of sources can give, by one plan or by several at once."""

from somerows.cases import is_child_state, is_integer_within, is_parent_state, is_tuple_of
from somerows.messages import messages_of
from somerows.plans import LANES
from somerows.sources import all_sources, commits


def is_told(case, value):
    """Return whether the value is what an entry may tell of children."""
    if is_tuple_of(value, 0):
        return True
    return is_tuple_of(value, 1) and is_integer_within(value[0], 0, case[2] - 1)


def has_form_of_entry(case, value):
    """Return whether the value is made as entries are, of the same kinds of parts."""
    if is_tuple_of(value, 4):
        word, p, state, told = value
        if word != "parent" or not is_integer_within(p, 0, case[0] - 1):
            return False
        return is_parent_state(case, state) and is_told(case, told)
    if is_tuple_of(value, 3):
        word, state, worth = value
        return word == "child" and is_child_state(case, state) and is_parent_state(case, worth)
    return False


def has_form_of_message(case, value):
    """Return whether the value is made as messages are, of the same kinds of parts."""
    if not isinstance(value, tuple) or len(value) > 2:
        return False
    return all([has_form_of_entry(case, entry) for entry in value])


class PossiblePlaces:
    """What the commits of all sources can put into the lanes, by one plan or by several.

    A place is a tuple with the message of one commit by each of the plans.
    """

    def __init__(self, case, plans):
        self.case = case
        self.plans = plans
        self.unread = all_sources(case)
        self.found = [{} for _ in range(plans[0][LANES])]

    def read(self, source):
        """Add the places that the commits of the source give."""
        for commit in commits(self.case, source):
            told = [messages_of(self.case, plan, source, commit) for plan in self.plans]
            for lane, place in enumerate(zip(*told)):
                if place[0] is not None:
                    self.found[lane][place] = True

    def include(self, lane, value):
        """Return whether the value, which may be any, is such a place in the lane."""
        # Python takes True for 1, and a list cannot be looked up: the form goes first.
        if not is_tuple_of(value, len(self.plans)):
            return False
        if not all([has_form_of_message(self.case, message) for message in value]):
            return False
        # There are many sources, and a few of them give most of the places.
        while self.unread and value not in self.found[lane]:
            self.read(self.unread.pop())
        return value in self.found[lane]
