"""Plans with the least cost."""

from blindpush.arcs import spread_of, tool_width
from blindpush.plans import plan_through


def least_cost(m, tools, costs, places, goal):
    """Return the least cost of a plan that reaches the goal from the places, or None."""
    ways = cheapest_ways(m, tools, costs, goal)
    start = cheapest_start(ways, spread_of(m, places))
    return None if start is None else ways[start][0]


def find_cheap_plan(m, tools, costs, places, goal):
    """Return a plan with the least cost that reaches the goal from the places, or None."""
    ways = cheapest_ways(m, tools, costs, goal)
    start = cheapest_start(ways, spread_of(m, places))
    return None if start is None else plan_through(m, tools, places, steps_from(ways, start))


def cost_widths(m, tools, costs, goal, most):
    """Return the tuple of the greatest lengths from which plans of cost at most 0, 1, .., most reach the goal."""
    ways = cheapest_ways(m, tools, costs, goal)
    return tuple([widest_for(ways, cost) for cost in range(most + 1)])


def cheapest_ways(m, tools, costs, goal):
    """Return a dict of the lengths that come from the goal if one tool after another widens it.

    Each has its least cost, then the tool's index and the length with which the way to the goal goes on (or None).
    """
    ways = {goal: (0, None, None)}
    # No width is less than its length, so nothing that comes later changes the cost of a length.
    for length in range(goal, m + 1):
        if length in ways:
            for index, tool in enumerate(tools):
                cost = ways[length][0] + costs[index]
                keep_cheaper(ways, tool_width(m, tool, length), (cost, index, length))
    return ways


def keep_cheaper(ways, length, way):
    """Put the way of the length into the ways, unless one that costs no more is there."""
    # A way that goes on with its own length would never come to the goal.
    if way[2] < length and (length not in ways or way[0] < ways[length][0]):
        ways[length] = way


def cheapest_start(ways, spread):
    """Return a length of the least cost among those that are at least the spread, or None."""
    return min([length for length in ways if length >= spread], key=lambda length: ways[length][0], default=None)


def steps_from(ways, start):
    """Return the steps (index, length) of the way from the length start to the goal."""
    steps = []
    cost, index, length = ways[start]
    while index is not None:
        steps.append((index, length))
        cost, index, length = ways[length]
    return steps


def widest_for(ways, cost):
    """Return the greatest length whose way costs at most so much."""
    return max([length for length in ways if ways[length][0] <= cost])
