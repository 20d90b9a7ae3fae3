"""Arcs of the circle, and how many places tools send into them."""

from blindpush.tools import target_of


def spread_of(m, places):
    """Return the least length of an arc that contains all the places."""
    return m - max([step - 1 for step in steps_between(m, places)])


def shortest_begin(m, places):
    """Return where a shortest arc that contains all the places begins: behind a longest step between them."""
    steps = steps_between(m, places)
    return places[(steps.index(max(steps)) + 1) % len(places)]


def steps_between(m, places):
    """Return how far it is from each of the ascending places to the next one round the circle."""
    following = list(places[1:]) + [places[0] + m]
    return [after - place for place, after in zip(places, following)]


def is_in_arc(m, begin, length, place):
    """Return whether the place lies in the arc (begin, length)."""
    return (place - begin) % m < length


def brought_into(m, tool, begin, length):
    """Return the ascending tuple of all places that the tool sends into the arc (begin, length)."""
    return tuple([place for place in range(m) if is_in_arc(m, begin, length, target_of(m, tool, place))])


def width_of(m, tools, length):
    """Return the greatest number of places that one of the tools sends into some arc of the length."""
    return max([tool_width(m, tool, length) for tool in tools])


def tool_width(m, tool, length):
    """Return the greatest number of places that the tool sends into some arc of the length."""
    return max(places_sent(m, tool, length))


def widest_begin(m, tool, length):
    """Return where the places begin that the tool sends into an arc of the length, if they are as many as can be."""
    counts = places_sent(m, tool, length)
    return tool[counts.index(max(counts))][0]


def places_sent(m, tool, length):
    """Return for each pair how many places the tool sends into the arc of the length that begins at its target."""
    # An arc that holds a target can be moved on until it begins at one and loses none: other begins need no trial.
    targets = [target for begin, target in tool]
    sizes = steps_between(m, [begin for begin, target in tool])
    return [places_from(m, targets, sizes, start, length) for start in targets]


def places_from(m, targets, sizes, start, length):
    """Return how many places are sent into the arc (start, length), if each target gets the places of its size."""
    return sum([size for target, size in zip(targets, sizes) if is_in_arc(m, start, length, target)])


def lengths_of(m, tools, goal):
    """Return the tuple of the goal, its width, the width of that, up to the first that is its own width."""
    lengths = [goal]
    wider = width_of(m, tools, goal)
    while wider != lengths[-1]:
        lengths.append(wider)
        wider = width_of(m, tools, wider)
    return tuple(lengths)
