"""Call 9: the way over, move by move."""

import unittest

from tests.helper import (
    LOST_CASES, MOMENT, NOTHING, OPEN, allowed, ask, beside, case, do, either, finish, in_row, last, move, over, price,
    process, rounds, row, rule, step)

LOST, OWED = 0, 1
ANY = rounds(either(step(0), either(step(1), step(2))), NOTHING)


def done_before(*steps):
    """A case in which these steps were done."""
    return [process(in_row(*steps)), OPEN, do(0, *steps)]


class Moves(unittest.TestCase):
    def test_none(self):
        self.assertEqual(last(OPEN, over(0)), [0])
        self.assertEqual(last(OPEN, process(in_row(3, 4)), over(0)), [0])

    def test_steps_that_count(self):
        self.assertEqual(last(*done_before(0, 1, 2), process(in_row(0, 1, 2, 3)), over(0)), [0, 0, 0, 0, 1, 0, 2])

    def test_steps_that_are_lost(self):
        self.assertEqual(last(*done_before(0, 1, 2), process(in_row(0, 2, 4)), over(0)), [1, 0, 0, 1, 1, 0, 2])
        self.assertEqual(last(*done_before(0, 1, 2), process(NOTHING), over(0)), [3, 1, 0, 1, 1, 1, 2])

    def test_steps_that_are_owed(self):
        before = [*done_before(1, 2), price(LOST, 1, 50), price(LOST, 2, 50)]
        self.assertEqual(last(*before, process(in_row(0, 1, 3, 2)), over(0)), [2, 2, 0, 0, 1, 2, 3, 0, 2])

    def test_all_three(self):
        before = [*done_before(5, 1, 2), price(LOST, 1, 50), price(LOST, 2, 50)]
        self.assertEqual(last(*before, process(in_row(1, 0, 2)), over(0)), [2, 1, 5, 0, 1, 2, 0, 0, 2])

    def test_nothing_is_owed_behind_the_last_step_that_counts(self):
        self.assertEqual(last(*done_before(0), rule(0, 1, 1), process(in_row(0, 1)), over(0)), [0, 0, 0])

    def test_something_owed_so_that_a_rule_can_be_kept(self):
        before = [*done_before(0), price(LOST, 0, 9), process(in_row(1, 0, 2))]
        self.assertEqual(last(*before, rule(6, 0, 1), over(0)), [1, 2, 1, 0, 0])

    def test_something_lost_so_that_a_rule_can_be_kept(self):
        before = [*done_before(0), process(either(in_row(0, 2), in_row(3, 1)))]
        self.assertEqual(last(*before, over(0)), [0, 0, 0])
        self.assertEqual(last(*before, rule(0, 1, 1), over(0)), [1, 1, 0])


class Prices(unittest.TestCase):
    TARGET = process(in_row(0, 1))

    def test_they_are_as_they_are_now(self):
        before = [*done_before(1), self.TARGET]
        given = ask(*before, over(0), price(LOST, 1, 3), over(0), price(OWED, 0, 2), over(0), price(OWED, 0, 4), over(0))
        self.assertEqual(given[4::2], [[1, 1, 1], [1, 2, 0, 0, 1], [2, 2, 0, 0, 1], [3, 1, 1]])

    def test_each_step_has_its_own(self):
        dear = [price(LOST, number, 10 + number) for number in range(3)]
        self.assertEqual(last(*done_before(0, 1, 2), *dear, process(NOTHING), over(0)), [33, 1, 0, 1, 1, 1, 2])
        dear = [price(LOST, 5, 100), price(OWED, 2, 20), price(OWED, 3, 30)]
        self.assertEqual(last(*done_before(5), *dear, process(in_row(2, 3, 5)), over(0)), [50, 2, 2, 2, 3, 0, 5])

    def test_a_refused_price_changes_nothing(self):
        self.assertEqual(last(*done_before(1), price(LOST, 1, 101), self.TARGET, over(0)), [1, 1, 1])


class Order(unittest.TestCase):
    def test_cost_comes_first(self):
        before = [*done_before(1), price(LOST, 1, 100), price(OWED, 3, 3)]
        self.assertEqual(last(*before, process(either(in_row(0, 0, 1), in_row(3, 1))), over(0)), [2, 2, 0, 2, 0, 0, 1])

    def test_of_as_cheap_ones_the_fewest_moves(self):
        before = [*done_before(1), price(LOST, 1, 100), price(OWED, 3, 2)]
        self.assertEqual(last(*before, process(either(in_row(0, 0, 1), in_row(3, 1))), over(0)), [2, 2, 3, 0, 1])
        self.assertEqual(last(*done_before(1), process(in_row(0, 1)), over(0)), [1, 1, 1])

    def test_counts_is_ahead_of_lost(self):
        self.assertEqual(last(*done_before(0, 0, 0), process(step(0)), over(0)), [2, 0, 0, 1, 0, 1, 0])
        for told in (either(in_row(2, 3), in_row(1, 4)), either(in_row(1, 4), in_row(2, 3))):
            self.assertEqual(last(*done_before(2, 1), process(told), over(0)), [1, 0, 2, 1, 1])

    def test_counts_is_ahead_of_owed(self):
        before = [*done_before(0, 1), price(LOST, 0, 9), price(LOST, 1, 9)]
        self.assertEqual(last(*before, process(in_row(0, 0, 1)), over(0)), [1, 0, 0, 2, 0, 0, 1])

    def test_lost_is_ahead_of_owed(self):
        before = [*done_before(5, 1), price(LOST, 1, 9)]
        self.assertEqual(last(*before, process(in_row(0, 1)), over(0)), [2, 1, 5, 2, 0, 0, 1])

    def test_owed_by_its_step(self):
        before = [*done_before(1), price(LOST, 1, 9)]
        for told in (beside(step(3), step(2)), beside(step(2), step(3))):
            self.assertEqual(last(*before, process(row(told, step(1))), over(0)), [2, 2, 2, 2, 3, 0, 1])

    def test_the_first_place_at_which_they_differ(self):
        before = [*done_before(1), price(LOST, 1, 100)]
        for told in (either(in_row(0, 5), in_row(4, 3)), either(in_row(4, 3), in_row(0, 5))):
            self.assertEqual(last(*before, process(row(told, step(1))), over(0)), [2, 2, 0, 2, 5, 0, 1])


class ByTheNewest(unittest.TestCase):
    def test_it_may_be_asked(self):
        before = [process(in_row(0, 1)), OPEN, do(0, 0)]
        self.assertEqual(ask(*before, over(0), move(0))[-2:], [[0, 0, 0], [-3]])

    def test_a_case_that_is_lost_where_it_stands(self):
        before = [process(either(in_row(0, 2), in_row(3, 1))), OPEN, do(0, 0), rule(0, 1, 1)]
        self.assertEqual(ask(*before, over(0), move(0), LOST_CASES)[-3:], [[1, 1, 0], [-3], [1, 0]])

    def test_one_that_was_moved_there(self):
        before = [*done_before(1), price(LOST, 1, 9), process(in_row(0, 1, 2)), move(0), do(0, 0)]
        # Done is 1, 0 now: so the 0 that was owed comes too late to count ahead of 1.
        self.assertEqual(ask(*before, over(0))[-3:], [[1, 0], [2, 1, 0], [2, 2, 0, 0, 1, 1, 0]])


class AsItIs(unittest.TestCase):
    BEFORE = [*done_before(1), price(LOST, 1, 9), process(in_row(0, 1, 2))]

    def test_it_costs_and_owes_what_a_move_does(self):
        self.assertEqual(ask(*self.BEFORE, over(0), move(0))[-2:], [[1, 2, 0, 0, 1], [1, 0]])

    def test_it_stays_as_it_is(self):
        asked = [case(5, 0), allowed(5, 0), finish(5, 0), LOST_CASES, MOMENT]
        self.assertEqual(ask(*self.BEFORE, over(0), *asked)[-5:], ask(*self.BEFORE, *asked)[-5:])
        self.assertEqual(ask(*self.BEFORE, over(0), *asked)[-5:], [[1, 1, 1, 0, 1, 1], [1], [0], [0], [5]])

    def test_asked_again_it_is_the_same(self):
        self.assertEqual(ask(*self.BEFORE, over(0), over(0), over(0))[-3:], [[1, 2, 0, 0, 1]] * 3)

    def test_it_may_be_asked_when_forty_have_been_done(self):
        before = [*self.BEFORE, *[price(0, 0, 1)] * 35]
        self.assertEqual(ask(*before, MOMENT, move(0), over(0))[-3:], [[40], [-8], [1, 2, 0, 0, 1]])


class Refused(unittest.TestCase):
    def test_no_such_case(self):
        self.assertEqual(last(over(0)), [-2])
        for which in (1, 2, 3, 4294967295):
            self.assertEqual(last(OPEN, over(which)), [-2])
        self.assertEqual(last(OPEN, OPEN, OPEN, over(2)), [0])
        self.assertEqual(last(OPEN, OPEN, OPEN, over(3)), [-2])

    def test_no_way_over(self):
        self.assertEqual(last(OPEN, rule(2, 0), over(0)), [-6])
        self.assertEqual(last(*done_before(0), rule(1, 0, 0), process(ANY), over(0)), [-6])
        self.assertEqual(last(*done_before(0), rule(1, 0, 1), process(ANY), over(0)), [0, 0, 0])
        self.assertEqual(last(*done_before(0), rule(0, 3, 1), process(ANY), over(0)), [-6])
        self.assertEqual(last(*done_before(0), rule(2, 0), rule(2, 1), process(ANY), over(0)), [-6])

    def test_no_such_case_is_told_ahead_of_no_way_over(self):
        self.assertEqual(ask(OPEN, rule(2, 0), over(0), over(1))[-2:], [[-6], [-2]])


if __name__ == "__main__":
    unittest.main()
