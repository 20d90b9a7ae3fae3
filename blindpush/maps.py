"""Periods of tools, and tools that are made from others."""

from blindpush.checks import is_place, is_tuple_within
from blindpush.tools import is_tool, push_place, target_of


def period_of(m, tool):
    """Return the least divisor of m after which the tool repeats."""
    return min([step for step in range(1, m + 1) if m % step == 0 and repeats(m, tool, step)])


def repeats(m, tool, step):
    """Return whether the target of each place moves on by step places if the place does."""
    table = table_of(m, tool)
    return all([table[(place + step) % m] == (table[place] + step) % m for place in range(m)])


def common_period(m, tools):
    """Return the least common multiple of the periods of the tools."""
    common = 1
    for tool in tools:
        period = period_of(m, tool)
        common = common * period // common_divisor(common, period)
    return common


def common_divisor(one, other):
    """Return the greatest common divisor of two numbers from 0 on."""
    while other > 0:
        one, other = other, one % other
    return one


def turned_tool(m, tool, turn):
    """Return the tool that does the same if the places are counted from the one to which the turn brings place 0."""
    return tool_of(m, tuple([(push_place(m, tool, turn, place) - turn) % m for place in range(m)]))


def mirrored_tool(m, tool):
    """Return the tool that does the same if the places are counted the other way round."""
    return tool_of(m, tuple([(0 - target_of(m, tool, (0 - place) % m)) % m for place in range(m)]))


def table_of(m, tool):
    """Return the tuple of the targets of all places."""
    return tuple([target_of(m, tool, place) for place in range(m)])


def tool_of(m, value):
    """Return the tool for m that has any value as its table, or None if there is none."""
    if not is_table(m, value):
        return None
    pairs = pairs_of(value)
    return pairs if is_tool(m, pairs) else None


def is_table(m, value):
    """Return whether any value is a tuple of m places."""
    return is_tuple_within(value, m, m) and all([is_place(m, target) for target in value])


def pairs_of(table):
    """Return the pairs (begin, target) of the longest arcs that have one target each."""
    changes = [(place, target) for place, target in enumerate(table) if target != table[place - 1]]
    # If all targets are equal, no place begins an arc; a tool with one arc begins it at place 0.
    return tuple(changes) if changes else ((0, table[0]),)


def combined(m, first, turn, second):
    """Return the tool that sends each place as first does, then turns it, then sends it as second does."""
    return plan_tool(m, (first, second), ((0, 0), (turn, 1)))


def plan_tool(m, tools, plan):
    """Return the tool that does the same as the whole plan, which has at least one push."""
    table = list(range(m))
    for turn, index in plan:
        table = [push_place(m, tools[index], turn, place) for place in table]
    return tool_of(m, tuple(table))
