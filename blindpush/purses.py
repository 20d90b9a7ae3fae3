"""Purses, from which pushes are paid."""

from blindpush.bounds import MAX_BUDGET
from blindpush.checks import is_number, is_number_within
from blindpush.errors import BadBudget, BadCost, OverBudget


class Purse:
    """A budget, and what is spent of it."""

    def __init__(self, budget):
        if not is_number_within(budget, 0, MAX_BUDGET):
            raise BadBudget(budget)
        self.granted = budget
        self.spent = 0

    @property
    def budget(self):
        """The number that the purse had in the beginning."""
        return self.granted

    @property
    def left(self):
        """The budget less what is spent."""
        return self.granted - self.spent

    def pay(self, cost):
        """Spend the cost and return what is left then."""
        if not is_number(cost) or cost < 0:
            raise BadCost(cost)
        if cost > self.left:
            raise OverBudget(self.left)
        self.spent = self.spent + cost
        return self.left

    def give_back(self, cost):
        """Take so much of what is spent back and return what is left then."""
        if not is_number_within(cost, 0, self.spent):
            raise BadCost(cost)
        self.spent = self.spent - cost
        return self.left
