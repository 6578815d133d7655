"""Call 5: the way over, what it costs, and how a case stands behind it."""

import unittest

from tests.helper import (
    NOTHING, OPEN, ask, beside, do, either, in_row, last, move, price, process, rounds, row, rule, step)

LOST, OWED = 0, 1
ANY = rounds(either(step(0), either(step(1), step(2))), NOTHING)


def done_before(*steps):
    """A case in which these steps were done."""
    return [process(in_row(*steps)), OPEN, do(0, *steps)]


def nexts(*before):
    """The steps that may be done next in case 0."""
    return [number for number in range(6) if last(*before, do(0, number)) != [-5]]


class Refused(unittest.TestCase):
    def test_no_such_case(self):
        self.assertEqual(last(move(0)), [-2])
        for which in (1, 2, 3, 4294967295):
            self.assertEqual(last(OPEN, process(step(0)), move(which)), [-2])

    def test_it_goes_by_the_newest(self):
        self.assertEqual(last(OPEN, move(0)), [-3])
        self.assertEqual(last(process(step(0)), OPEN, move(0)), [-3])
        self.assertEqual(ask(OPEN, process(step(0)), move(0), move(0))[2:], [[0], [-3]])
        self.assertEqual(ask(OPEN, process(step(0)), OPEN, move(1), move(0))[3:], [[-3], [0]])

    def test_the_same_process_told_anew_is_another(self):
        self.assertEqual(last(*done_before(0, 1), process(in_row(0, 1)), move(0)), [0])

    def test_a_process_that_was_refused_is_not_the_newest(self):
        self.assertEqual(last(*done_before(0), process(step(6)), move(0)), [-3])

    def test_it_goes_by_the_newest_is_told_ahead_of_no_way_over(self):
        self.assertEqual(last(process(step(0)), OPEN, rule(1, 0, 0), move(0)), [-3])

    def test_no_way_over(self):
        self.assertEqual(last(*done_before(0), rule(1, 0, 0), process(ANY), move(0)), [-6])
        self.assertEqual(last(*done_before(0), rule(2, 1), process(ANY), move(0)), [-6])
        self.assertEqual(last(*done_before(0), rule(0, 3, 1), process(ANY), move(0)), [-6])
        self.assertEqual(last(OPEN, rule(2, 0), rule(1, 0, 0), process(ANY), move(0)), [-6])

    def test_all_is_as_it_was_behind_no_way_over(self):
        before = [process(in_row(0, 1)), OPEN, do(0, 0), rule(1, 2, 0), process(step(2)), move(0)]
        self.assertEqual(ask(*before, do(0, 2), do(0, 1))[-3:], [[-6], [-5], [2, 1, 1]])


class Costs(unittest.TestCase):
    def test_nothing_was_done(self):
        self.assertEqual(ask(OPEN, process(in_row(3, 4)), move(0), do(0, 3, 4)), [[0], [1], [0], [1, 1, 0], [2, 1, 1]])

    def test_steps_that_count_cost_nothing(self):
        self.assertEqual(last(*done_before(0, 1, 2), process(in_row(0, 1, 2, 3)), move(0)), [0])
        self.assertEqual(nexts(*done_before(0, 1, 2), process(in_row(0, 1, 2, 3)), move(0)), [3])

    def test_a_beginning_is_enough(self):
        self.assertEqual(last(*done_before(0), process(in_row(0, 1, 2, 3, 4)), move(0)), [0])

    def test_steps_that_are_lost(self):
        before = done_before(0, 1, 2)
        self.assertEqual(last(*before, process(in_row(0, 2, 4)), move(0)), [1])
        self.assertEqual(nexts(*before, process(in_row(0, 2, 4)), move(0)), [4])
        self.assertEqual(last(*before, process(step(5)), move(0)), [3])
        self.assertEqual(nexts(*before, process(step(5)), move(0)), [5])
        self.assertEqual(last(*before, price(LOST, 0, 3), price(LOST, 1, 20), process(NOTHING), move(0)), [24])

    def test_steps_that_are_owed(self):
        before = [*done_before(1, 2), price(LOST, 1, 50), price(LOST, 2, 50)]
        self.assertEqual(last(*before, process(in_row(0, 1, 3, 2)), move(0)), [2, 0, 3])
        self.assertEqual(last(*before, price(OWED, 3, 7), process(in_row(0, 1, 3, 2)), move(0)), [8, 0, 3])

    def test_prices_say_what_is_lost_and_what_is_owed(self):
        target = process(in_row(0, 1))
        before = done_before(1)
        self.assertEqual(last(*before, price(LOST, 1, 3), price(OWED, 0, 2), target, move(0)), [2, 0])
        self.assertEqual(last(*before, price(LOST, 1, 2), price(OWED, 0, 3), target, move(0)), [2])
        self.assertEqual(nexts(*before, price(LOST, 1, 2), price(OWED, 0, 3), target, move(0)), [0])

    def test_prices_changed_later_hold_for_the_next_move(self):
        given = ask(*done_before(1), price(LOST, 1, 9), process(step(0)), move(0),
                    price(LOST, 1, 4), process(step(2)), move(0))
        self.assertEqual([given[5], given[-1]], [[9], [4]])

    def test_what_is_lost_may_be_dearer_than_much_that_is_owed(self):
        before = [*done_before(4), price(LOST, 4, 100)]
        self.assertEqual(last(*before, process(in_row(0, 1, 2, 3, 4)), move(0)), [4, 0, 1, 2, 3])
        dear = [price(OWED, number, 25) for number in range(4)]
        self.assertEqual(last(*before, *dear, process(in_row(0, 1, 2, 3, 4)), move(0)), [100])
        self.assertEqual(last(*before, *dear[:3], process(in_row(0, 1, 2, 3, 4)), move(0)), [76, 0, 1, 2, 3])

    def test_round_after_round_is_owed(self):
        before = [*done_before(1, 1, 1), price(LOST, 1, 100)]
        self.assertEqual(last(*before, process(rounds(in_row(0, 1), step(2))), move(0)), [5, 0, 2, 0, 2, 0])

    def test_side_by_side(self):
        before = done_before(2, 0, 1)
        self.assertEqual(last(*before, process(beside(in_row(0, 1), step(2))), move(0)), [0])
        self.assertEqual(last(*before, process(beside(in_row(1, 0), step(2))), move(0)), [1])


class Order(unittest.TestCase):
    def test_of_as_cheap_ones_the_fewest_moves(self):
        before = done_before(1)
        target = process(in_row(0, 2, 1))
        self.assertEqual(last(*before, price(LOST, 1, 3), target, move(0)), [2, 0, 2])
        self.assertEqual(last(*before, price(LOST, 1, 2), target, move(0)), [2])
        self.assertEqual(nexts(*before, price(LOST, 1, 2), target, move(0)), [0])

    def test_fewest_moves_come_ahead_of_the_first_move(self):
        # 0 owed twice costs as much as 3 owed once, and 0 is ahead of 3.
        before = [*done_before(1), price(LOST, 1, 100), price(OWED, 3, 2)]
        self.assertEqual(last(*before, process(either(in_row(0, 0, 1), in_row(3, 1))), move(0)), [2, 3])

    def test_cost_comes_ahead_of_fewest_moves(self):
        before = [*done_before(1), price(LOST, 1, 100), price(OWED, 3, 3)]
        self.assertEqual(last(*before, process(either(in_row(0, 0, 1), in_row(3, 1))), move(0)), [2, 0, 0])

    def test_counts_is_ahead_of_lost(self):
        for told in (either(in_row(2, 3), in_row(1, 4)), either(in_row(1, 4), in_row(2, 3))):
            before = [*done_before(2, 1), process(told), move(0)]
            self.assertEqual(last(*before), [1])
            self.assertEqual(nexts(*before), [3])

    def test_counts_is_ahead_of_owed(self):
        for told in (either(in_row(2, 4), in_row(0, 2)), either(in_row(0, 2), in_row(2, 4))):
            before = [*done_before(2, 1), price(LOST, 1, 9), price(LOST, 2, 9)]
            self.assertEqual(last(*before, process(row(told, step(1))), move(0)), [1, 4])

    def test_lost_is_ahead_of_owed(self):
        for told in (either(in_row(0, 1), in_row(3, 2)), either(in_row(3, 2), in_row(0, 1))):
            before = [*done_before(1, 2), price(LOST, 1, 5), price(LOST, 2, 5)]
            self.assertEqual(last(*before, process(told), move(0)), [6, 3])

    def test_owed_by_its_step(self):
        for told in (either(in_row(3, 1), in_row(2, 1)), either(in_row(2, 1), in_row(3, 1))):
            before = [*done_before(1), price(LOST, 1, 100)]
            self.assertEqual(last(*before, process(told), move(0)), [1, 2])

    def test_the_first_place_at_which_they_differ(self):
        for told in (either(in_row(0, 5), in_row(4, 3)), either(in_row(4, 3), in_row(0, 5))):
            before = [*done_before(1), price(LOST, 1, 100)]
            self.assertEqual(last(*before, process(row(told, step(1))), move(0)), [2, 0, 5])


class Rules(unittest.TestCase):
    def test_a_way_over_by_which_rules_can_be_kept(self):
        # Cheapest would be to count 0; but then 1 can't come any more.
        told = either(in_row(0, 2), in_row(3, 1))
        before = done_before(0)
        self.assertEqual(last(*before, process(told), move(0)), [0])
        self.assertEqual(last(*before, rule(0, 1, 1), process(told), move(0)), [1])
        self.assertEqual(nexts(*before, process(told), move(0)), [2])
        self.assertEqual(nexts(*before, rule(0, 1, 1), process(told), move(0)), [0, 3])

    def test_something_owed_so_that_a_rule_can_be_kept(self):
        # Right behind 0, then 1: with 1 owed ahead of 0, it comes right behind what was done.
        told = in_row(1, 0, 2)
        before = [*done_before(0), process(told)]
        self.assertEqual(last(*before, price(LOST, 0, 9), rule(6, 0, 1), move(0)), [1, 1])
        self.assertEqual(last(*done_before(0), rule(6, 0, 1), process(in_row(0, 2)), move(0)), [-6])

    def test_rules_speak_of_what_was_done_then_owed_then_the_way_on(self):
        target = process(in_row(1, 0, 2))
        before = [*done_before(0), price(LOST, 0, 9)]
        self.assertEqual(last(*before, rule(2, 0), target, move(0)), [1, 1])
        self.assertEqual(last(*before, rule(2, 1), target, move(0)), [-6])
        self.assertEqual(last(*before, rule(1, 0, 1), target, move(0)), [1, 1])
        self.assertEqual(last(*before, rule(0, 0, 2), target, move(0)), [9])
        self.assertEqual(last(*before, rule(3, 2), target, move(0)), [1, 1])

    def test_what_was_lost_still_counts_for_rules(self):
        self.assertEqual(last(*done_before(0), rule(1, 0, 1), process(step(0)), move(0)), [0])
        self.assertEqual(last(*done_before(0, 1), rule(7, 0, 2), process(step(2)), move(0)), [-6])

    def test_what_is_owed_counts_for_rules(self):
        target = process(in_row(2, 1))
        before = [*done_before(1), price(LOST, 1, 50)]
        self.assertEqual(last(*before, target, move(0)), [1, 2])
        self.assertEqual(last(*before, rule(1, 2, 0), target, move(0)), [-6])
        self.assertEqual(last(*before, rule(3, 1), target, move(0)), [50])

    def test_a_case_that_was_lost_for_its_own_process_may_be_saved(self):
        given = ask(process(in_row(0, 2)), OPEN, do(0, 0), rule(4, 0, 1), process(in_row(0, 1)), move(0), do(0, 1))
        self.assertEqual(given[3:], [[0, 1], [2], [0], [2, 1, 1]])

    def test_two_rules_at_once(self):
        told = either(row(step(0), either(step(1), step(3))), step(2))
        before = [*done_before(0), process(told)]
        self.assertEqual(last(*before, rule(7, 0, 1), rule(7, 0, 3), move(0)), [1])
        self.assertEqual(nexts(*before, rule(7, 0, 1), rule(7, 0, 3), move(0)), [0, 2])
        self.assertEqual(last(*before, rule(7, 0, 1), rule(7, 0, 4), move(0)), [0])


class Behind(unittest.TestCase):
    def test_it_goes_by_the_newest(self):
        before = [process(step(0)), OPEN, process(step(1)), process(step(2)), move(0)]
        self.assertEqual(nexts(*before), [2])
        self.assertEqual(last(*before, move(0)), [-3])

    def test_only_that_case_is_moved(self):
        given = ask(process(step(0)), OPEN, OPEN, process(step(1)), move(1), do(0, 1), do(0, 0), do(1, 0), do(1, 1))
        self.assertEqual(given[4:], [[0], [-5], [1, 1, 1], [-5], [1, 1, 1]])

    def test_moved_again_all_that_was_done_is_looked_at_anew(self):
        given = ask(*done_before(0, 1), process(step(1)), move(0), process(in_row(0, 1, 2)), move(0), do(0, 2))
        self.assertEqual(given[4:], [[2], [1], [3], [0], [3, 1, 1]])

    def test_moved_again_what_was_owed_is_not_owed_any_more(self):
        before = [*done_before(1), price(LOST, 1, 9), process(in_row(0, 1)), move(0), process(in_row(1, 2)), move(0)]
        self.assertEqual(ask(*before)[-3:], [[1, 0], [3], [0]])
        self.assertEqual(nexts(*before), [2])

    def test_what_was_owed_and_done_counts_in_the_order_in_which_it_was_done(self):
        before = [*done_before(1), price(LOST, 1, 9), process(in_row(0, 1)), move(0), do(0, 0)]
        self.assertEqual(last(*before, process(in_row(1, 0, 2)), move(0)), [0])
        # The 0 that was done is behind 1: it's lost, and another one is owed.
        self.assertEqual(last(*before, process(in_row(0, 1, 2)), move(0)), [2, 0])
        self.assertEqual(ask(*before, process(in_row(0, 1, 2)), move(0), do(0, 0, 2))[-2:], [[3, 1, 0], [4, 1, 1]])
        self.assertEqual(last(*before, price(LOST, 1, 1), process(in_row(0, 1, 2)), move(0)), [1])

    def test_back_to_where_it_was_through(self):
        given = ask(*done_before(0, 1), process(NOTHING), move(0), process(in_row(0, 1)), move(0), move(0))
        self.assertEqual(given[5:], [[2], [3], [0], [-3]])


if __name__ == "__main__":
    unittest.main()
