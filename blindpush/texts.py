"""Tools, plans, places and circles as texts."""

from blindpush.bounds import MAX_ARCS, MAX_PLACES, MAX_PLAN, MAX_TOOLS
from blindpush.checks import is_number_within, is_turn
from blindpush.errors import BadText
from blindpush.tools import item_error


def tool_text(tool):
    """Return the text of a tool."""
    return pairs_text(tool, ">")


def plan_text(plan):
    """Return the text of a plan."""
    return pairs_text(plan, ":") if plan else "none"


def places_text(places):
    """Return the text of places."""
    return " ".join([str(place) for place in places])


def pairs_text(pairs, sign):
    """Return the pairs with the sign between the two numbers of each and a space between two pairs."""
    return " ".join([f"{left}{sign}{right}" for left, right in pairs])


def parse_tool(m, text):
    """Return the tool for m whose text any value is; raise BadText if there is none."""
    pairs = read_pairs(text, ">")
    for index in range(len(pairs)):
        if index == MAX_ARCS or item_error(m, pairs, index) is not None:
            raise BadText(index)
    return pairs


def parse_plan(text):
    """Return the plan whose text any value is; raise BadText if there is none."""
    if text == "none":
        return ()
    pairs = read_pairs(text, ":")
    for index, pair in enumerate(pairs):
        if index == MAX_PLAN or not is_push_of_some_tools(pair):
            raise BadText(index)
    return pairs


def is_push_of_some_tools(pair):
    """Return whether the pair, or None, is a push with as many tools as there can be."""
    return pair is not None and is_turn(pair[0]) and is_number_within(pair[1], 0, MAX_TOOLS - 1)


def parse_circle(text):
    """Return the number of places and the tools whose text any value is; raise BadText if there are none."""
    if not isinstance(text, str):
        raise BadText(None)
    head, colon, rest = text.partition(": ")
    m = read_number(head)
    if colon == "" or not is_number_within(m, 1, MAX_PLACES):
        raise BadText(0)
    return (m, tuple([parse_part(m, index, part) for index, part in enumerate(rest.split(", "), start=1)]))


def parse_part(m, index, part):
    """Return the tool for m whose text the part at the index is; raise BadText with this index if there is none."""
    if index > MAX_TOOLS:
        raise BadText(index)
    try:
        return parse_tool(m, part)
    except BadText:
        raise BadText(index)


def read_pairs(text, sign):
    """Return for each word of the text the pair of numbers that it is the text of, or None; raise BadText(None)."""
    if not isinstance(text, str):
        raise BadText(None)
    return tuple([read_pair(word, sign) for word in text.split(" ")])


def read_pair(word, sign):
    """Return the pair of numbers that is written with the sign between them, or None."""
    parts = word.split(sign)
    if len(parts) != 2:
        return None
    return (read_number(parts[0]), read_number(parts[1]))


def read_number(word):
    """Return the number whose text the word is, or None."""
    try:
        number = int(word)
    except ValueError:
        return None
    # Python also reads leading zeros, plus signs, "-0", underscores and blanks, which are not written here.
    return number if str(number) == word else None
