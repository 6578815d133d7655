"""Call 2: what a step costs as lost and as owed."""

import unittest

from tests.helper import OPEN, ask, do, in_row, last, move, price, process, step

LOST, OWED = 0, 1


def cost_of_losing(number, *prices):
    """What it costs to move a case with this one step done to a process that has no place for it."""
    other = (number + 1) % 6
    return last(process(step(number)), OPEN, do(0, number), *prices, process(step(other)), move(0))


def cost_of_owing(number, *prices):
    """What it costs to move a case to a process that has this step ahead of the one that was done."""
    other = (number + 1) % 6
    dear = price(LOST, other, 100)
    return last(process(step(other)), OPEN, do(0, other), dear, *prices, process(in_row(number, other)), move(0))


class Prices(unittest.TestCase):
    def test_all_are_1_at_the_beginning(self):
        for number in range(6):
            self.assertEqual(cost_of_losing(number), [1])
            self.assertEqual(cost_of_owing(number), [1, number])

    def test_each_kind_and_step_has_its_own(self):
        every = [price(kind, number, 10 * kind + number + 2) for kind in (0, 1) for number in range(6)]
        for number in range(6):
            self.assertEqual(cost_of_losing(number, *every), [number + 2])
        dear = [price(OWED, number, number + 12) for number in range(6)]
        for number in range(6):
            self.assertEqual(cost_of_owing(number, *dear), [number + 12, number])

    def test_one_price_changes_no_other(self):
        self.assertEqual(cost_of_losing(2, price(OWED, 2, 50), price(LOST, 1, 50), price(LOST, 3, 50)), [1])
        self.assertEqual(cost_of_owing(2, price(LOST, 2, 50), price(OWED, 1, 50), price(OWED, 3, 50)), [1, 2])

    def test_the_last_one_told_holds(self):
        self.assertEqual(cost_of_losing(2, price(LOST, 2, 50), price(LOST, 2, 7)), [7])

    def test_edges(self):
        for kind in (LOST, OWED):
            for number in (0, 5):
                for cost in (1, 2, 99, 100):
                    self.assertEqual(last(price(kind, number, cost)), [0])
        self.assertEqual(cost_of_losing(5, price(LOST, 5, 100)), [100])
        self.assertEqual(cost_of_losing(5, price(LOST, 5, 100), price(LOST, 5, 1)), [1])

    def test_refused(self):
        wrong = [(2, 0, 1), (4294967295, 0, 1), (0, 6, 1), (1, 6, 1), (0, 4294967295, 1), (0, 0, 0), (1, 0, 0),
                 (0, 0, 101), (1, 5, 101), (0, 0, 4294967295), (2, 6, 0)]
        for told in wrong:
            self.assertEqual(last(price(*told)), [-1], told)

    def test_a_refused_one_changes_nothing(self):
        self.assertEqual(cost_of_losing(0, price(LOST, 0, 9), price(LOST, 0, 101), price(LOST, 0, 0)), [9])
        self.assertEqual(cost_of_losing(0, price(2, 0, 9), price(0, 6, 9)), [1])
        self.assertEqual(ask(price(0, 0, 0), price(0, 0, 1)), [[-1], [0]])


if __name__ == "__main__":
    unittest.main()
