"""What may be handed in, and how the rest is refused."""

from cachebet.errors import BadCosts, BadCount, BadName, BadPage, BadPaper, BadRule, BadSize, BadStream
from cachebet.rules import RULES

PAGES = 10
MOST_SIZE = 6
MOST_ASKS = 60
MOST_COST = 99
MOST_FIELD_PAGES = 4
MOST_RATIO_PART = 999
MOST_WORTH = 1000000000
MOST_LETTERS = 8


def is_number(value, low, high):
    """Tell whether value is a whole number from low to high."""
    # True and False are ints to Python, but no numbers here.
    if isinstance(value, bool) or not isinstance(value, int):
        return False
    return low <= value <= high


def is_of_numbers(value, depth):
    """Tell whether value is a whole number, or tuples of such within one another, no deeper than depth."""
    if not isinstance(value, tuple):
        return isinstance(value, int) and not isinstance(value, bool)
    return depth > 0 and all([is_of_numbers(part, depth - 1) for part in value])


def check_rule(rule):
    """Refuse what is no rule."""
    if rule not in RULES:
        raise BadRule("no such rule")


def check_size(size):
    """Refuse what is no size."""
    if not is_number(size, 1, MOST_SIZE):
        raise BadSize(f"a size is a number from 1 to {MOST_SIZE}")


def check_stream(stream):
    """Refuse what is no stream, with the first place that can't be."""
    if not isinstance(stream, tuple):
        raise BadStream(0)
    for number, page in enumerate(stream):
        if number == MOST_ASKS or not is_number(page, 0, PAGES - 1):
            raise BadStream(number)


def check_count(count, low, high):
    """Refuse what is no number from low to high."""
    if not is_number(count, low, high):
        raise BadCount(f"not a number from {low} to {high}")


def check_costs(weights):
    """Refuse what are no weights of all pages; None stands for equal ones."""
    if weights is None:
        return
    if not isinstance(weights, tuple) or len(weights) != PAGES:
        raise BadCosts(f"weights are a tuple of {PAGES} numbers")
    for cost in weights:
        if not is_number(cost, 1, MOST_COST):
            raise BadCosts(f"a weight is a number from 1 to {MOST_COST}")


def check_page(page):
    """Refuse what is no page."""
    if not is_number(page, 0, PAGES - 1):
        raise BadPage(f"a page is a number from 0 to {PAGES - 1}")


def check_name(name):
    """Refuse what is no name."""
    if not isinstance(name, str) or not 1 <= len(name) <= MOST_LETTERS:
        raise BadName(f"a name has 1 to {MOST_LETTERS} letters")
    for letter in name:
        if not "a" <= letter <= "z":
            raise BadName("a name has letters from a to z")


def check_field(rule, size, pages, most_size):
    """Refuse what no graph of nodes is made for: a size may be one, but too great here."""
    check_rule(rule)
    check_size(size)
    check_count(size, 1, most_size)
    check_count(pages, 1, MOST_FIELD_PAGES)


def check_finite_rule(rule):
    """Refuse the rule whose marks grow without end, so that there is no end to its nodes."""
    if rule == "often":
        raise BadRule("not of this rule")


def check_ratio(told):
    """Refuse what is no (top, under)."""
    if not isinstance(told, tuple) or len(told) != 2:
        raise BadCount("a ratio is a tuple of two numbers")
    for part in told:
        check_count(part, 1, MOST_RATIO_PART)


def check_paper(some):
    """Refuse what is no list of two things each, the second one a worth; whatever the first one is."""
    if not isinstance(some, list):
        raise BadPaper("a paper is a list")
    for row in some:
        if not isinstance(row, tuple) or len(row) != 2 or not is_number(row[1], 0, MOST_WORTH):
            raise BadPaper(f"a row is a tuple of a node and a number from 0 to {MOST_WORTH}")
