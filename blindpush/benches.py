"""Benches, on which possible places are followed, with undo, and benches on which pushes are paid."""

from blindpush.arcs import is_in_arc, spread_of
from blindpush.bounds import BATCH, MAX_COST, MAX_EDITS, MAX_PLACES, MAX_TOOLS
from blindpush.checks import is_index, is_number_within, is_place, is_tuple_within, is_turn
from blindpush.errors import BadCircle, BadCosts, BadEdit, BadEdits, BadLength, BadTools, BadTurn, Busy, Impossible
from blindpush.errors import NoPlace, NoTool, NotAlike, NothingToUndo, NoVersion, PushError, Rejected, TooManyEdits
from blindpush.plans import fewest_pushes, find_plan
from blindpush.purses import Purse
from blindpush.texts import parse_circle
from blindpush.tools import is_tool, push_places


def common_places(*benches, least=0):
    """Return the ascending tuple of the places from least on that are possible in each of the benches."""
    if len(benches) == 0:
        return ()
    for index, bench in enumerate(benches):
        if bench.m != benches[0].m:
            raise NotAlike(index)
    common = [place for place in benches[0].possible() if place >= least]
    for bench in benches:
        possible = bench.possible()
        common = [place for place in common if place in possible]
    return tuple(common)


def check_tools(m, value):
    """Raise BadTools if any value is not a tuple of tools for m."""
    if not is_tuple_within(value, 1, MAX_TOOLS):
        raise BadTools(None)
    for index, item in enumerate(value):
        if not is_tool(m, item):
            raise BadTools(index)


def is_costs(tools, value):
    """Return whether any value is costs for the tools."""
    if not is_tuple_within(value, len(tools), len(tools)):
        return False
    return all([is_number_within(cost, 1, MAX_COST) for cost in value])


def batch_of(value):
    """Return a tuple of the edits in any value; raise BadEdits or BadEdit if it is not a batch."""
    if not isinstance(value, (list, tuple)) or len(value) > BATCH:
        raise BadEdits()
    for index, item in enumerate(value):
        if not is_edit(item):
            raise BadEdit(index)
    return tuple(value)


def is_edit(value):
    """Return whether any value is a tuple of the name of an edit and two values."""
    return is_tuple_within(value, 3, 3) and value[0] in ("push", "learn")


class Bench:
    """A circle with tools, the places where the part can be, and the edits that stand."""

    # A class value is written out: this is MAX_EDITS.
    LIMIT = 60

    def __init__(self, m, tools):
        if not is_number_within(m, 1, MAX_PLACES):
            raise BadCircle(m)
        check_tools(m, tools)
        self.m = m
        self.tools = tools
        self.done = ()
        # The possible places of every version, so there is one item more than there are edits.
        self.states = (tuple(range(m)),)
        self.aim = 1
        self.is_watched = False

    def __len__(self):
        return len(self.done)

    def __str__(self):
        return f"{self.m} places, {len(self.tools)} tools, {len(self.states[-1])} possible, {len(self.done)} edits"

    def __eq__(self, other):
        return isinstance(other, Bench) and self.compared() == other.compared()

    def compared(self):
        """Return what is the same for equal benches."""
        return (self.m, self.tools, self.states[-1])

    @staticmethod
    def arc(m, begin, length):
        """Return the ascending tuple of the places of the arc."""
        return tuple([place for place in range(m) if is_in_arc(m, begin, length, place)])

    @classmethod
    def read(cls, text):
        """Return a new bench with the circle and the tools whose text any value is."""
        m, tools = parse_circle(text)
        return cls(m, tools)

    @property
    def goal(self):
        """The length of the arc into which the part is to be brought."""
        return self.aim

    @property
    def needed(self):
        """The fewest pushes with which the goal is reached, or None."""
        return fewest_pushes(self.m, self.tools, self.states[-1], self.aim)

    @property
    def is_known(self):
        """Whether the goal is reached."""
        return spread_of(self.m, self.states[-1]) <= self.aim

    def aim_at(self, value):
        """Make any value the goal, if it is a length, and return how many pushes are needed."""
        self.check_free()
        self.check_length(value)
        self.aim = value
        return self.needed

    def push(self, turn, index):
        """Send the possible places on and return the new version."""
        self.check_push(turn, index)
        return self.add_edit(("push", turn, index), push_places(self.m, self.tools[index], turn, self.states[-1]))

    def learn(self, begin, length):
        """Keep only the possible places that lie in the arc and return the new version."""
        self.check_room()
        if not is_place(self.m, begin):
            raise NoPlace(begin)
        self.check_length(length)
        kept = tuple([place for place in self.states[-1] if is_in_arc(self.m, begin, length, place)])
        if len(kept) == 0:
            raise Impossible()
        return self.add_edit(("learn", begin, length), kept)

    def undo(self):
        """Remove the last edit that stands and return the new version."""
        self.check_free()
        if len(self.done) == 0:
            raise NothingToUndo()
        self.done = self.done[:-1]
        self.states = self.states[:-1]
        return len(self.done)

    def attempt(self, edits, *, watch=None):
        """Do the edits until watch returns a true value, or none of them; return how many were done."""
        self.check_free()
        batch = batch_of(edits)
        done, states = self.done, self.states
        many = None
        try:
            many = self.do_edits(batch, watch)
        finally:
            # The exception of a watch may be any one, so it is not caught: without a number the call has failed.
            if many is None:
                self.done, self.states = done, states
        return many

    def do_edits(self, batch, watch):
        """Do the edits until watch returns a true value; return how many were done."""
        for index, edit in enumerate(batch):
            self.do_edit(index, edit)
            if watch is not None and self.is_enough(watch):
                return index + 1
        return len(batch)

    def do_edit(self, index, edit):
        """Do the edit at the index of a batch; raise Rejected if it raises an error."""
        name, first, second = edit
        try:
            if name == "push":
                self.push(first, second)
            else:
                self.learn(first, second)
        except (PushError, NoTool, NoPlace) as error:
            raise Rejected(index) from error

    def is_enough(self, watch):
        """Return whether watch returns a true value; while it runs, the bench takes no edits."""
        self.is_watched = True
        try:
            return bool(watch(self))
        finally:
            self.is_watched = False

    def add_edit(self, edit, places):
        """Let the edit stand, with the places that are possible after it, and return the new version."""
        self.done = self.done + (edit,)
        self.states = self.states + (places,)
        return len(self.done)

    def check_free(self):
        """Raise Busy while watch runs."""
        if self.is_watched:
            raise Busy()

    def check_room(self):
        """Raise an error if no edit can be done now."""
        self.check_free()
        if len(self.done) >= MAX_EDITS:
            raise TooManyEdits()

    def check_push(self, turn, index):
        """Raise an error if these values are no push that can be done now."""
        self.check_room()
        if not is_turn(turn):
            raise BadTurn(turn)
        if not is_index(self.tools, index):
            raise NoTool(index)

    def check_length(self, value):
        """Raise BadLength if any value is not a length of the circle."""
        if not is_number_within(value, 1, self.m):
            raise BadLength(value)

    def possible(self, *, version=None):
        """Return the possible places, now or after so many of the edits that stand."""
        if version is None:
            return self.states[-1]
        if not is_index(self.states, version):
            raise NoVersion(version)
        return self.states[version]

    def spread(self, *, version=None):
        """Return the spread of the possible places."""
        return spread_of(self.m, self.possible(version=version))

    def remaining(self, goal, *, version=None):
        """Return the fewest pushes with which the goal is reached, or None."""
        places = self.possible(version=version)
        self.check_length(goal)
        return fewest_pushes(self.m, self.tools, places, goal)

    def plan(self, goal):
        """Return a plan with the fewest pushes that reaches the goal, or None."""
        self.check_length(goal)
        return find_plan(self.m, self.tools, self.states[-1], goal)

    def walk(self, goal):
        """Yield each push of the plan for the goal, with the places that are possible after it."""
        pushes = self.plan(goal)
        if pushes is None:
            return
        places = self.states[-1]
        for turn, index in pushes:
            places = push_places(self.m, self.tools[index], turn, places)
            yield ((turn, index), places)

    def edits(self):
        """Return the tuple of the edits that stand."""
        return self.done


class CostBench(Bench, Purse):
    """A bench on which each push with a tool costs what the tool costs."""

    def __init__(self, m, tools, costs, budget):
        Bench.__init__(self, m, tools)
        if not is_costs(tools, costs):
            raise BadCosts(costs)
        Purse.__init__(self, budget)
        self.costs = costs

    def compared(self):
        """Return what is the same for equal benches."""
        return super().compared() + (self.costs, self.budget, self.left)

    def push(self, turn, index):
        """Pay for the tool, send the possible places on and return the new version."""
        self.check_push(turn, index)
        self.pay(self.costs[index])
        return super().push(turn, index)

    def undo(self):
        """Remove the last edit that stands, give back what it cost and return the new version."""
        edits = self.done
        version = super().undo()
        name, first, second = edits[-1]
        if name == "push":
            self.give_back(min(self.costs[second], self.spent))
        return version

    def attempt(self, edits, *, watch=None):
        """Do the edits until watch returns a true value, or none of them; return how many were done."""
        spent = self.spent
        many = None
        try:
            many = super().attempt(edits, watch=watch)
        finally:
            if many is None:
                self.spent = spent
        return many
