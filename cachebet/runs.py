"""What the rules miss, and streams that they miss throughout."""

from cachebet.checks import MOST_ASKS, MOST_SIZE, PAGES, check_count, check_rule, check_size, check_stream
from cachebet.rules import EMPTY, pages_held, step


def run(rule, size, stream):
    """Tell (misses, rows, held) of a stream; a row is (whether the page was held, what goes or None)."""
    check_rule(rule)
    check_size(size)
    check_stream(stream)
    state = EMPTY
    rows = []
    misses = 0
    for page in stream:
        was_held, gone, state = step(rule, size, state, page)
        rows.append((was_held, gone))
        if not was_held:
            misses += 1
    return misses, rows, pages_held(state)


def curve(rule, stream, most):
    """Tell a list of the misses of a stream by sizes from 1 to most."""
    check_rule(rule)
    check_stream(stream)
    check_count(most, 1, MOST_SIZE)
    return [run(rule, size, stream)[0] for size in range(1, most + 1)]


def cruel(rule, size, pages, long):
    """Tell the first stream of so many asks, of pages from 0 on, that a rule misses throughout."""
    check_rule(rule)
    check_size(size)
    check_count(pages, size + 1, PAGES)
    check_count(long, 0, MOST_ASKS)
    # The least page that isn't held is right at each ask: there are more pages than
    # room, so it is one of them, and another miss can always follow it.
    state = EMPTY
    stream = []
    for _ in range(long):
        page = least_not_held(pages_held(state))
        stream.append(page)
        state = step(rule, size, state, page)[2]
    return tuple(stream)


def least_not_held(held):
    """Tell the least page that isn't held: where size pages are held, size or less."""
    page = 0
    while page in held:
        page += 1
    return page
