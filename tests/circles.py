"""Tools and places for the tests, and what DOC.md says of them in its plainest form."""

from functools import lru_cache
from itertools import combinations
from math import gcd

T = ((0, 2), (5, 6), (9, 10))
P = ((0, 1), (4, 5), (8, 9))

# Twelve arcs are the most that a tool has; the begins and the targets here are uneven and go over place 0.
LARGE = tuple(zip((3, 4, 9, 15, 16, 22, 30, 31, 32, 44, 50, 58), (47, 50, 51, 59, 0, 6, 7, 20, 21, 22, 40, 41)))

LONG = 10 ** 30 - 1

ANY_VALUES = (
    None, True, False, 0, 1, -1, 10 ** 40 - 1, "", "tool", "((0, 0),)", "\n", [], {}, [[0, 0]], [(0, 0)],
    {"a": 1}, {"a": (0, 0)}, ((),), ([],), ({},), (None,), ("ab",), (0,), (0, 0), ((0,),), ((0, 0, 0),), ([0, 0],),
    (((0, 0),),), ((0, None),), (("0", "0"),), ((0, (0,)),), ((0, [0]),), (((((((0, 0),),),),),),),
)


def all_tools(m):
    """Every tool for m, from the choice of its begins, its first target and the steps to its other targets."""
    tools = [((0, target),) for target in range(m)]
    for many in range(2, min(m, 12) + 1):
        for begins in combinations(range(m), many):
            for first in range(m):
                for steps in combinations(range(1, m), many - 1):
                    targets = [(first + step) % m for step in (0, *steps)]
                    tools.append(tuple(zip(begins, targets)))
    return tools


def some_tools(m, many):
    """About so many of the tools for m, far apart."""
    tools = all_tools(m)
    return tools[::max(1, len(tools) // many)]


def place_sets(m):
    """Every ascending tuple of one or more places."""
    return [places for many in range(1, m + 1) for places in combinations(range(m), many)]


def arc_places(m, begin, length):
    return sorted((begin + step) % m for step in range(length))


@lru_cache(maxsize=100000)
def spread_by_search(m, places):
    for length in range(1, m + 1):
        for begin in range(m):
            if set(places) <= set(arc_places(m, begin, length)):
                return length


@lru_cache(maxsize=100000)
def sent_to(m, tool, place):
    """The target of a place, found by going back to the begin of its arc."""
    begins = dict(tool)
    while place not in begins:
        place = (place - 1) % m
    return begins[place]


@lru_cache(maxsize=100000)
def width_by_search(m, tools, length):
    counts = []
    for tool in tools:
        for begin in range(m):
            arc = arc_places(m, begin, length)
            counts.append(sum(sent_to(m, tool, place) in arc for place in range(m)))
    return max(counts)


def pushed(m, tools, push, places):
    """The ascending tuple of the places after one push."""
    turn, index = push
    return tuple(sorted({sent_to(m, tools[index], (place + turn) % m) for place in places}))


def all_pushes(m, tools):
    return [(turn, index) for turn in range(m) for index in range(len(tools))]


def least_by_search(m, tools, costs, goal):
    """The least cost of a plan that reaches the goal, for each set of places from which there is one."""
    best = {places: 0 for places in place_sets(m) if spread_by_search(m, places) <= goal}
    moves = [
        (places, pushed(m, tools, push, places), costs[push[1]])
        for places in place_sets(m) for push in all_pushes(m, tools)
    ]
    before = None
    while before != best:
        before = dict(best)
        for places, after, cost in moves:
            if after in best:
                best[places] = min(best.get(places, best[after] + cost), best[after] + cost)
    return best


def repeats(m, tool, step):
    return all(
        sent_to(m, tool, (place + step) % m) == (sent_to(m, tool, place) + step) % m
        for place in range(m)
    )


def all_repeat(m, tools, length):
    return all(repeats(m, tool, gcd(length, m)) for tool in tools)


def excludes(m, tools, places, goal, number):
    """Whether the number excludes all plans."""
    return goal <= number < spread_by_search(m, places) and all_repeat(m, tools, number)


def merging_tool(m):
    """A tool, for at most 13 places, that brings only two places together and leaves all others alone."""
    return ((0, 0),) + tuple((place, place) for place in range(2, m))


def turning_tool(m):
    """A tool, for at most 12 places, that only turns the part."""
    return tuple((place, (place + 1) % m) for place in range(m))
