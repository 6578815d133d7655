"""Calls 3 and 4: cases, and what is done in them."""

import unittest

from tests.helper import NOTHING, OPEN, ask, beside, do, either, in_row, last, move, price, process, rounds, rule, step

ANY = rounds(either(step(0), either(step(1), step(2))), NOTHING)


class Opened(unittest.TestCase):
    def test_they_are_numbered_from_0_and_there_are_three(self):
        self.assertEqual(ask(OPEN, OPEN, OPEN, OPEN, OPEN), [[0], [1], [2], [-7], [-7]])

    def test_a_case_goes_by_the_newest_process(self):
        given = ask(OPEN, process(step(3)), OPEN, process(step(4)), OPEN, do(0, 3), do(1, 3), do(2, 4), do(2, 4))
        self.assertEqual(given[-4:], [[-5], [1, 1, 1], [1, 1, 1], [-5]])

    def test_cases_have_nothing_in_common(self):
        given = ask(process(in_row(0, 1)), OPEN, OPEN, do(0, 0), do(1, 1), do(1, 0), do(0, 1), do(1, 1))
        self.assertEqual(given[3:], [[1, 1, 0], [-5], [1, 1, 0], [2, 1, 1], [2, 1, 1]])


class Done(unittest.TestCase):
    def test_three_numbers(self):
        given = ask(process(in_row(0, 1, 2)), OPEN, do(0, 0, 1, 2))
        self.assertEqual(given[2:], [[1, 1, 0], [2, 1, 0], [3, 1, 1]])

    def test_no_such_case(self):
        for which in (0, 1, 2, 3, 4294967295):
            self.assertEqual(last(process(ANY), do(which, 0)), [-2])
        for which in (1, 2, 4294967295):
            self.assertEqual(last(process(ANY), OPEN, do(which, 0)), [-2])
        self.assertEqual(last(process(ANY), OPEN, OPEN, OPEN, do(2, 0)), [1, 1, 1])
        self.assertEqual(last(process(ANY), OPEN, OPEN, OPEN, do(3, 0)), [-2])

    def test_a_step_that_may_not_be_done_next(self):
        for number in (1, 2, 5, 6, 7, 4294967295):
            self.assertEqual(last(process(step(0)), OPEN, do(0, number)), [-5])
        self.assertEqual(ask(process(in_row(0, 1)), OPEN, do(0, 0, 0, 1, 1))[2:], [[1, 1, 0], [-5], [2, 1, 1], [-5]])

    def test_five_steps_and_no_more(self):
        given = ask(process(rounds(step(0), NOTHING)), OPEN, do(0, 0, 0, 0, 0, 0, 0, 0))
        self.assertEqual(given[2:], [[n, 1, 1] for n in range(1, 6)] + [[-7], [-7]])

    def test_may_not_be_done_is_told_ahead_of_five_were_done(self):
        given = ask(process(rounds(step(0), NOTHING)), OPEN, do(0, 0, 0, 0, 0, 0), do(0, 1), do(0, 0), do(1, 1))
        self.assertEqual(given[-3:], [[-5], [-7], [-2]])

    def test_all_is_as_it_was_behind_a_refusal(self):
        given = ask(process(in_row(0, 1, 2)), OPEN, do(0, 0, 2, 1, 9, 2))
        self.assertEqual(given[2:], [[1, 1, 0], [-5], [2, 1, 0], [-5], [3, 1, 1]])

    def test_it_is_done_also_if_not_all_rules_can_be_kept(self):
        given = ask(process(ANY), OPEN, rule(1, 1, 0), do(0, 0, 1, 0))
        self.assertEqual(given[3:], [[1, 1, 1], [2, 0, 0], [3, 0, 0]])

    def test_rules_that_only_a_way_on_can_keep(self):
        given = ask(process(ANY), OPEN, rule(4, 0, 1), do(0, 2, 0, 2, 1))
        self.assertEqual(given[3:], [[1, 1, 1], [2, 1, 0], [3, 1, 0], [4, 1, 1]])
        given = ask(process(in_row(0, 2)), OPEN, rule(4, 0, 1), do(0, 0, 2))
        self.assertEqual(given[2:], [[0, 1], [1, 0, 0], [2, 0, 0]])

    def test_a_choice_after_which_rules_cannot_be_kept(self):
        told = either(in_row(0, 1), in_row(2, 0))
        self.assertEqual(last(process(told), OPEN, rule(0, 1, 1), do(0, 0)), [1, 1, 0])
        self.assertEqual(last(process(told), OPEN, rule(0, 1, 1), do(0, 2)), [1, 0, 0])

    def test_two_rules_at_once(self):
        given = ask(process(ANY), OPEN, rule(8, 0, 1), rule(3, 0), do(0, 0, 1, 0, 2))
        self.assertEqual(given[4:], [[1, 1, 1], [2, 1, 0], [3, 1, 1], [4, 1, 0]])
        self.assertEqual(last(process(ANY), OPEN, rule(8, 0, 1), rule(3, 0), do(0, 0, 0)), [2, 0, 0])

    def test_no_more_of_a_step_can_come(self):
        # Whichever of the two 0 it was, the other way on is still there.
        told = either(in_row(0, 1), in_row(0, 2))
        self.assertEqual(ask(process(told), OPEN, do(0, 0, 1))[2:], [[1, 1, 0], [2, 1, 1]])
        self.assertEqual(ask(process(told), OPEN, do(0, 0, 2))[2:], [[1, 1, 0], [2, 1, 1]])
        self.assertEqual(ask(process(told), OPEN, rule(0, 2, 1), do(0, 0, 1))[3:], [[1, 1, 0], [2, 0, 0]])


class Next(unittest.TestCase):
    def nexts(self, told, *done):
        """The steps that may be done next behind these."""
        before = [process(told), OPEN, do(0, *done)]
        return [number for number in range(7) if last(*before, do(0, number)) != [-5]]

    def test_for_each_kind(self):
        self.assertEqual(self.nexts(step(3)), [3])
        self.assertEqual(self.nexts(step(3), 3), [])
        self.assertEqual(self.nexts(NOTHING), [])
        self.assertEqual(self.nexts(in_row(2, 1)), [2])
        self.assertEqual(self.nexts(in_row(2, 1), 2), [1])
        self.assertEqual(self.nexts(either(in_row(2, 1), step(5))), [2, 5])
        self.assertEqual(self.nexts(either(in_row(2, 1), step(5)), 5), [])
        self.assertEqual(self.nexts(beside(in_row(2, 1), step(5))), [2, 5])
        self.assertEqual(self.nexts(beside(in_row(2, 1), step(5)), 2), [1, 5])
        self.assertEqual(self.nexts(beside(in_row(2, 1), step(5)), 5), [2])
        self.assertEqual(self.nexts(rounds(step(4), either(step(0), NOTHING))), [4])
        self.assertEqual(self.nexts(rounds(step(4), either(step(0), NOTHING)), 4), [0, 4])
        self.assertEqual(self.nexts(rounds(step(4), either(step(0), NOTHING)), 4, 0), [4])

    def test_rules_do_not_say_what_may_be_done(self):
        self.assertEqual(last(process(step(0)), OPEN, rule(1, 0, 0), do(0, 0)), [1, 0, 0])


class Owed(unittest.TestCase):
    # Behind these the case stands at 2, 3, 1, and owes 2, 3.
    BEFORE = [process(step(1)), OPEN, do(0, 1), price(0, 1, 100), process(in_row(2, 3, 1, 4)), move(0)]

    def test_just_the_first_may_be_done(self):
        self.assertEqual(last(*self.BEFORE), [2, 2, 3])
        for number in (0, 1, 3, 4, 5, 6):
            self.assertEqual(last(*self.BEFORE, do(0, number)), [-5])
            if number != 3:
                self.assertEqual(last(*self.BEFORE, do(0, 2, number)), [-5])

    def test_then_it_goes_on_where_it_stands(self):
        given = ask(*self.BEFORE, do(0, 2, 3), do(0, 1), do(0, 4))
        self.assertEqual(given[-4:], [[2, 1, 0], [3, 1, 0], [-5], [4, 1, 1]])

    def test_it_is_not_through_while_something_is_owed(self):
        before = [process(step(1)), OPEN, do(0, 1), price(0, 1, 100), process(in_row(2, 3, 1)), move(0)]
        self.assertEqual(ask(*before, do(0, 2, 3))[-3:], [[2, 2, 3], [2, 1, 0], [3, 1, 1]])

    def test_rules_speak_of_what_was_done_and_not_of_where_it_stands(self):
        # Done is 1, 2, 3, 4; it stands at 2, 3, 1, 4.
        for told, kept in (((2, 1), 1), ((2, 2), 0), ((6, 1, 2), 1), ((6, 1, 4), 0), ((6, 3, 4), 1), ((6, 3, 1), 0)):
            self.assertEqual(last(*self.BEFORE, do(0, 2, 3), rule(*told), do(0, 4)), [4, kept, kept], told)

    def test_steps_that_were_lost_are_still_done(self):
        before = [process(in_row(0, 0, 0)), OPEN, do(0, 0, 0, 0), process(rounds(step(1), NOTHING)), move(0)]
        given = ask(*before, do(0, 1, 1, 1))
        self.assertEqual(given[-4:], [[3], [4, 1, 1], [5, 1, 1], [-7]])

    def test_five_were_done_also_where_something_is_owed(self):
        five = [process(in_row(1, 1, 1, 1, 1)), OPEN, do(0, 1, 1, 1, 1, 1), price(0, 1, 100)]
        before = [*five, process(rounds(step(1), step(2))), move(0)]
        self.assertEqual(ask(*before, do(0, 2), do(0, 1))[-3:], [[4, 2, 2, 2, 2], [-7], [-5]])


class Through(unittest.TestCase):
    def test_at_a_case_of_its_process(self):
        self.assertEqual(ask(process(rounds(step(0), step(1))), OPEN, do(0, 0, 1, 0))[2:],
                         [[1, 1, 1], [2, 1, 0], [3, 1, 1]])

    def test_what_was_done_must_keep_all_rules(self):
        given = ask(process(rounds(step(0), NOTHING)), OPEN, rule(0, 0, 2), rule(1, 0, 3), do(0, 0, 0, 0, 0))
        self.assertEqual(given[4:], [[1, 1, 0], [2, 1, 1], [3, 1, 1], [4, 0, 0]])

    def test_one_that_is_through_may_go_on(self):
        self.assertEqual(ask(process(either(step(0), in_row(0, 1))), OPEN, do(0, 0, 1))[2:], [[1, 1, 1], [2, 1, 1]])

    def test_rules_that_come_later(self):
        given = ask(process(rounds(step(0), NOTHING)), OPEN, do(0, 0), rule(0, 0, 3), do(0, 0, 0))
        self.assertEqual(given[2:], [[1, 1, 1], [0, 0], [2, 1, 0], [3, 1, 1]])


if __name__ == "__main__":
    unittest.main()
