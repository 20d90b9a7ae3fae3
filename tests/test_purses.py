"""Purses [3] [15]."""

import unittest

from blindpush.errors import BadBudget, BadCost
from blindpush.purses import Purse
from tests.states import NO_NUMBERS, ending


class PurseCase(unittest.TestCase):
    def check(self, purse, budget, left):
        self.assertEqual((purse.budget, purse.left), (budget, left))
        self.assertEqual((type(purse.budget), type(purse.left)), (int, int))

    def refuse(self, purse, error, function, value):
        """The call raises the error with this very value and changes nothing."""
        budget, left = purse.budget, purse.left
        with self.assertRaises(error) as caught:
            function(value)
        self.assertIs(caught.exception.value, value)
        self.check(purse, budget, left)


class Budgets(PurseCase):
    def test_budgets(self):
        for budget in (0, 1, 10, 9999, 10000):
            self.check(Purse(budget), budget, budget)

    def test_wrong_budgets(self):
        for value in NO_NUMBERS + (-1, 10001, 10 ** 40 - 1, -10 ** 39, (10,), [10]):
            with self.assertRaises(BadBudget) as caught:
                Purse(value)
            self.assertIs(caught.exception.value, value)

    def test_the_attributes_are_only_read(self):
        purse = Purse(10)
        for name in ("budget", "left"):
            with self.assertRaises(AttributeError):
                setattr(purse, name, 3)
        self.check(purse, 10, 10)

    def test_purses_do_not_share(self):
        one, other = Purse(10), Purse(10)
        one.pay(4)
        self.check(other, 10, 10)


class Paying(PurseCase):
    def test_pay(self):
        purse = Purse(10)
        for cost, left in ((4, 6), (0, 6), (5, 1), (1, 0), (0, 0)):
            self.assertEqual(purse.pay(cost), left)
            self.check(purse, 10, left)

    def test_all_at_once_and_one_more(self):
        purse = Purse(10000)
        self.assertEqual(ending(purse.pay, 10001), "raises OverBudget(10000)")
        self.assertEqual(purse.pay(10000), 0)
        self.assertEqual(ending(purse.pay, 1), "raises OverBudget(0)")
        self.check(purse, 10000, 0)

    def test_more_than_is_left(self):
        purse = Purse(10)
        purse.pay(3)
        for cost in (8, 10, 11, 10 ** 40 - 1):
            self.assertEqual(ending(purse.pay, cost), "raises OverBudget(7)")
            self.check(purse, 10, 7)
        self.assertEqual(purse.pay(7), 0)

    def test_a_purse_without_money(self):
        purse = Purse(0)
        self.assertEqual(purse.pay(0), 0)
        self.assertEqual(ending(purse.pay, 1), "raises OverBudget(0)")
        self.assertEqual(purse.give_back(0), 0)
        self.refuse(purse, BadCost, purse.give_back, 1)

    def test_wrong_costs(self):
        purse = Purse(10)
        purse.pay(5)
        for value in NO_NUMBERS + (-1, -10 ** 39):
            self.refuse(purse, BadCost, purse.pay, value)
            self.refuse(purse, BadCost, purse.give_back, value)

    def test_give_back(self):
        purse = Purse(10)
        purse.pay(7)
        for cost, left in ((2, 5), (0, 5), (4, 9), (1, 10), (0, 10)):
            self.assertEqual(purse.give_back(cost), left)
            self.check(purse, 10, left)

    def test_give_back_more_than_is_spent(self):
        purse = Purse(10)
        for value in (1, 10, 10 ** 40 - 1):
            self.refuse(purse, BadCost, purse.give_back, value)
        purse.pay(4)
        for value in (5, 6, 10):
            self.refuse(purse, BadCost, purse.give_back, value)
        self.assertEqual(purse.give_back(4), 10)


if __name__ == "__main__":
    unittest.main()
