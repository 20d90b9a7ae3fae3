"""Tools, and what pushes with them do to places."""

from blindpush.bounds import MAX_ARCS, MAX_PLAN
from blindpush.checks import is_index, is_pair, is_place, is_tuple_within, is_turn
from blindpush.errors import BadPlan


def is_tool(m, value):
    """Return whether any value is a tool for m."""
    return tool_error(m, value) is None


def tool_error(m, value):
    """Return None if any value is a tool for m, otherwise its first error as (index, word)."""
    if not is_tuple_within(value, 1, MAX_ARCS):
        return (None, "tool")
    for index in range(len(value)):
        word = item_error(m, value, index)
        if word is not None:
            return (index, word)
    return None


def item_error(m, items, index):
    """Return the word for what is wrong with an item, or None; the items before it have no error."""
    if not is_pair_of_places(m, items[index]):
        return "pair"
    if not begin_fits(items, index):
        return "begin"
    if not target_fits(m, items, index):
        return "target"
    return None


def is_pair_of_places(m, value):
    """Return whether any value is a pair of places of the circle."""
    return is_pair(value) and is_place(m, value[0]) and is_place(m, value[1])


def begin_fits(pairs, index):
    """Return whether the begin of the pair at index comes in order."""
    begin = pairs[index][0]
    if len(pairs) == 1:
        return begin == 0
    return index == 0 or begin > pairs[index - 1][0]


def target_fits(m, pairs, index):
    """Return whether the target of the pair at index comes in order."""
    if index == 0:
        return True
    first = pairs[0][1]
    return (pairs[index][1] - first) % m > (pairs[index - 1][1] - first) % m


def target_of(m, tool, place):
    """Return the target to which the tool sends the place."""
    # The last arc goes on over place 0, so it also holds the places before the first begin.
    found = tool[-1][1]
    for begin, target in tool:
        if begin <= place:
            found = target
    return found


def push_place(m, tool, turn, place):
    """Return the place to which a push with this turn and this tool sends the place."""
    return target_of(m, tool, (place + turn) % m)


def push_places(m, tool, turn, places):
    """Return the ascending tuple of the places to which the push sends these places."""
    return tuple(sorted({push_place(m, tool, turn, place) for place in places}))


def after_plan(m, tools, plan, places):
    """Return the ascending tuple of the places to which the pushes of the plan send these places."""
    check_plan(tools, plan)
    reached = places
    for turn, index in plan:
        reached = push_places(m, tools[index], turn, reached)
    return reached


def check_plan(tools, value):
    """Raise BadPlan if any value is not a plan of at most MAX_PLAN pushes with these tools."""
    if not is_tuple_within(value, 0, MAX_PLAN):
        raise BadPlan(None)
    for index, item in enumerate(value):
        if not is_push(tools, item):
            raise BadPlan(index)


def is_push(tools, value):
    """Return whether any value is a push with these tools."""
    return is_pair(value) and is_turn(value[0]) and is_index(tools, value[1])
