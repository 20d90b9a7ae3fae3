"""Plans with the fewest pushes, and certificates that can be checked without a search."""

from blindpush.arcs import lengths_of, shortest_begin, spread_of, tool_width, widest_begin, width_of
from blindpush.checks import is_number_within, is_pair, is_tuple_within
from blindpush.errors import BadPlan
from blindpush.maps import common_divisor, repeats
from blindpush.tools import after_plan, push_places


def fewest_pushes(m, tools, places, goal):
    """Return the least number of pushes of a plan that reaches the goal from the places, or None."""
    spread = spread_of(m, places)
    for pushes, length in enumerate(lengths_of(m, tools, goal)):
        if length >= spread:
            return pushes
    return None


def find_plan(m, tools, places, goal):
    """Return a plan with the fewest pushes that reaches the goal from the places, or None."""
    pushes = fewest_pushes(m, tools, places, goal)
    if pushes is None:
        return None
    shorter = lengths_of(m, tools, goal)[:pushes]
    return plan_through(m, tools, places, [(widest_index(m, tools, length), length) for length in reversed(shorter)])


def widest_index(m, tools, length):
    """Return the index of a tool that sends as many places into some arc of the length as one of them can."""
    widths = [tool_width(m, tool, length) for tool in tools]
    return widths.index(max(widths))


def plan_through(m, tools, places, steps):
    """Return the plan that brings the places, one step (index, length) after another, into arcs of these lengths.

    The tool of each step must be wide enough for the spread of the places that come to it.
    """
    plan = []
    reached = places
    for index, length in steps:
        turn = (widest_begin(m, tools[index], length) - shortest_begin(m, reached)) % m
        plan.append((turn, index))
        reached = push_places(m, tools[index], turn, reached)
    return tuple(plan)


def plan_holds(m, tools, places, goal, value):
    """Return whether any value is a plan that reaches the goal from the places."""
    try:
        reached = after_plan(m, tools, value, places)
    except BadPlan:
        return False
    return spread_of(m, reached) <= goal


def fewest_holds(m, tools, places, goal, value):
    """Return whether any value is a plan that reaches the goal, and lengths that exclude plans with fewer pushes."""
    if not is_pair(value):
        return False
    plan, lengths = value
    if not plan_holds(m, tools, places, goal, plan):
        return False
    return is_lengths(m, len(plan), lengths) and lengths_hold(m, tools, places, goal, lengths)


def is_lengths(m, many, value):
    """Return whether any value is a tuple of so many numbers from 1 to m."""
    return is_tuple_within(value, many, many) and all([is_number_within(length, 1, m) for length in value])


def lengths_hold(m, tools, places, goal, lengths):
    """Return whether each length is at least what the one before it asks for, and the last less than the spread."""
    least = goal
    for length in lengths:
        if length < least:
            return False
        least = width_of(m, tools, length)
    return len(lengths) == 0 or lengths[-1] < spread_of(m, places)


def find_certificate(m, tools, places, goal):
    """Return ("plan", plan) with a plan that reaches the goal, or ("never", number) if there is none."""
    plan = find_plan(m, tools, places, goal)
    if plan is None:
        return ("never", lengths_of(m, tools, goal)[-1])
    return ("plan", plan)


def certificate_holds(m, tools, places, goal, value):
    """Return whether any value shows that a plan reaches the goal, or that none does."""
    if not is_pair(value):
        return False
    word, proof = value
    if word == "plan":
        return plan_holds(m, tools, places, goal, proof)
    return word == "never" and excludes_plans(m, tools, places, goal, proof)


def excludes_plans(m, tools, places, goal, value):
    """Return whether any value is a number that excludes all plans for the places and the goal."""
    if not is_number_within(value, goal, spread_of(m, places) - 1):
        return False
    step = common_divisor(value, m)
    return all([repeats(m, tool, step) for tool in tools])
