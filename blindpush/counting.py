"""How many plans send all places to so many places."""

from blindpush.bounds import SMALL_PLACES, SMALL_PUSHES
from blindpush.errors import TooLarge
from blindpush.maps import table_of


def count_plans(m, tools, pushes):
    """Return how many plans with so many pushes send all places to one place."""
    return count_images(m, tools, pushes)[0]


def count_images(m, tools, pushes):
    """Return the tuple of how many plans with so many pushes send all places to 1, 2, .., m different places."""
    if m > SMALL_PLACES:
        raise TooLarge(SMALL_PLACES)
    if pushes > SMALL_PUSHES:
        raise TooLarge(SMALL_PUSHES)
    tables = [table_of(m, tool) for tool in tools]
    counts = {tuple(range(m)): 1}
    for push in range(pushes):
        counts = counts_after(m, tables, counts)
    return tuple([sum([counts[places] for places in counts if len(places) == many]) for many in range(1, m + 1)])


def counts_after(m, tables, counts):
    """Return how many plans lead to each set of places, if the counts say so for plans with one push less."""
    after = {}
    for places in counts:
        for table in tables:
            for turn in range(m):
                reached = tuple(sorted({table[(place + turn) % m] for place in places}))
                after[reached] = after.get(reached, 0) + counts[places]
    return after
