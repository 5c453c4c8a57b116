"""What may be handed in, and how the rest is refused."""

from cachebet.errors import BadCosts, BadCount, BadRule, BadSize, BadStream
from cachebet.rules import RULES

PAGES = 10
MOST_SIZE = 6
MOST_ASKS = 60
MOST_COST = 99


def is_number(value, low, high):
    """Tell whether value is a whole number from low to high."""
    # True and False are ints to Python, but no numbers here.
    if isinstance(value, bool) or not isinstance(value, int):
        return False
    return low <= value <= high


def check_rule(rule):
    """Refuse what is no rule."""
    if rule not in RULES:
        raise BadRule("no such rule")


def check_size(size):
    """Refuse what is no size."""
    if not is_number(size, 1, MOST_SIZE):
        raise BadSize(f"a size is a number from 1 to {MOST_SIZE}")


def check_stream(stream):
    """Refuse what is no stream, with the first place that can't be."""
    if not isinstance(stream, tuple):
        raise BadStream(0)
    for number, page in enumerate(stream):
        if number == MOST_ASKS or not is_number(page, 0, PAGES - 1):
            raise BadStream(number)


def check_count(count, low, high):
    """Refuse what is no number from low to high."""
    if not is_number(count, low, high):
        raise BadCount(f"not a number from {low} to {high}")


def check_costs(weights):
    """Refuse what are no weights of all pages; None stands for equal ones."""
    if weights is None:
        return
    if not isinstance(weights, tuple) or len(weights) != PAGES:
        raise BadCosts(f"weights are a tuple of {PAGES} numbers")
    for cost in weights:
        if not is_number(cost, 1, MOST_COST):
            raise BadCosts(f"a weight is a number from 1 to {MOST_COST}")
