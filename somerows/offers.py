"""Offers: plans at their costs, the cheapest sound ones, and books against each cheaper one."""

from somerows.cases import is_integer_within
from somerows.faults import FAULT_WORDS, faults
from somerows.plans import CHILDREN, LOOKS_AGAIN, PARENTS, SENDINGS, TELLS_CHILDREN, TELLS_VALUE
from somerows.plans import all_plans, is_plan
from somerows.searches import all_standings, search_for
from somerows.tables import find_history, is_history

MOST_PLANS = 72
GREATEST_COST = 9999

# What a book goes up to if no plan of the offer is sound.
BEYOND_ALL_COSTS = 10000


def is_offer(value):
    """Return whether the value is an offer."""
    if not isinstance(value, dict) or not 1 <= len(value) <= MOST_PLANS:
        return False
    return all([
        is_plan(plan) and is_integer_within(cost, 0, GREATEST_COST)
        for plan, cost in value.items()
    ])


def priced_parts(plan):
    """Return, in the order of the prices, whether the plan has what each of them is for."""
    children = [plan[CHILDREN] == sending for sending in SENDINGS]
    parents = [plan[PARENTS] == sending for sending in SENDINGS]
    return children + parents + [plan[TELLS_VALUE], plan[TELLS_CHILDREN], plan[LOOKS_AGAIN]]


def cost_of(prices, plan):
    """Return the cost of the plan by the prices."""
    return sum([price for price, has in zip(prices, priced_parts(plan)) if has])


def priced(lanes, late, anew, prices):
    """Return the offer of all plans with these lanes, late and anew, at their costs."""
    return {plan: cost_of(prices, plan) for plan in all_plans(lanes, late, anew)}


def is_sound(case, plan, words):
    """Return whether the plan is sound for the words."""
    return search_for(case, plan, words).end is None


def safe_words(case, plan):
    """Return the ascending tuple of the words such that the plan is sound for the word alone."""
    seen = {word: True for standing in all_standings(case, plan) for word in faults(case, standing)}
    return tuple([word for word in FAULT_WORDS if word not in seen])


def cheapest_first(offer):
    """Return (cost, plan) for all plans of the offer, ascending."""
    return sorted([(cost, plan) for plan, cost in offer.items()])


def cheapest_plan(case, offer, words):
    """Return (cost, plan) for the least of the cheapest sound plans, or None if none is sound."""
    for cost, plan in cheapest_first(offer):
        if is_sound(case, plan, words):
            return cost, plan
    return None


def find_book(case, offer, words):
    """Return (cost, book) for the cost of the cheapest sound plan, 10000 if none is sound."""
    histories = {}
    for cost, plan in cheapest_first(offer):
        history = find_history(case, plan, words)
        if history is None:
            # Plans at the same cost are not cheaper.
            return cost, {other: histories[other] for other in histories if offer[other] < cost}
        histories[plan] = history
    return BEYOND_ALL_COSTS, histories


def is_book(case, offer, words, cost, value):
    """Return whether the value is a book for the offer, the words and the cost."""
    # Only plans are compared: other keys may be equal to some, or have no order in Python.
    if not isinstance(value, dict) or not all([is_plan(plan) for plan in value]):
        return False
    if sorted(value) != sorted([plan for plan in offer if offer[plan] < cost]):
        return False
    return all([is_history(case, plan, words, history) for plan, history in value.items()])
