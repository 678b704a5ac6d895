"""Logs of feeds: their calls, each with the fault words after it."""

from somerows.cases import is_tuple_of
from somerows.errors import SomerowsError
from somerows.feedcommits import is_own_place, own_part
from somerows.feeds import Feed
from somerows.moves import is_same


def feed_log(feed):
    """Return the log of the feed."""
    return list(feed.entries)


def make(feed, call):
    """Make the call of a feed, which is one as undo returns it."""
    if call[0] == "commit":
        feed.commit(call[1])
    elif call[0] == "deliver":
        feed.deliver(call[1])
    else:
        feed.begin_anew()


def has_form_of_call(value):
    """Return whether the value is made as undo returns calls, with anything behind the word."""
    if is_tuple_of(value, 1):
        return value[0] == "anew"
    return is_tuple_of(value, 2) and value[0] in ("commit", "deliver")


def is_made(feed, value):
    """Make the call that the value, which may be any, is; return whether the feed may make it."""
    if not has_form_of_call(value):
        return False
    try:
        make(feed, value)
    except SomerowsError:
        return False
    return True


def is_right_entry(feed, value):
    """Make the call of the value, which may be any; return whether its words are right."""
    if not is_tuple_of(value, 2):
        return False
    call, words = value
    return is_made(feed, call) and is_same(words, feed.fault_words())


def first_feed_fault(case, plan, c, value):
    """Return the number of the first entry of the list that is not right, or None."""
    feed = Feed(case, plan, c)
    for number, entry in enumerate(value):
        if not is_right_entry(feed, entry):
            return number
    return None


def is_feed_log(case, plan, c, value):
    """Return whether the value is a log."""
    return isinstance(value, list) and first_feed_fault(case, plan, c, value) is None


def own_step(feed, call, k):
    """Return the step of child k that the next call of the feed is, or None."""
    if call[0] == "anew":
        return call
    if call[0] == "commit":
        part = own_part(call[1], k)
        return None if part == () else ("commit", part)
    changes, _ = feed.under_way()[call[1]][0]
    return call if is_own_place(feed.plan, call[1], changes, k) else None


def history_of(case, plan, c, log, k):
    """Return the tuple of the steps that the log has for child k."""
    feed = Feed(case, plan, c)
    found = []
    for call, _ in log:
        step = own_step(feed, call, k)
        if step is not None:
            found.append(step)
        make(feed, call)
    return tuple(found)
