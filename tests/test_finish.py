"""Call 8: what was owed at a moment, then the earliest way on by which all rules were kept."""

import unittest

from tests.helper import (
    MOMENT, NOTHING, OPEN, ask, beside, do, either, finish, in_row, last, move, price, process, rounds, row, rule, step)

ANY = rounds(either(step(0), either(step(1), step(2))), NOTHING)


def finished(told, *more):
    """What's told of a new case of the process behind these calls, none of which is refused."""
    before = [process(told), OPEN, *more]
    given = ask(*before, MOMENT)
    assert [answered for answered in given if answered[0] < 0] == [], given
    return last(*before, finish(given[-1][0], 0))


class Ways(unittest.TestCase):
    def test_the_one_way_there_is(self):
        self.assertEqual(finished(in_row(0, 1, 2)), [3, 0, 1, 2])
        self.assertEqual(finished(in_row(0, 1, 2), do(0, 0)), [2, 1, 2])
        self.assertEqual(finished(in_row(0, 1, 2), do(0, 0, 1)), [1, 2])

    def test_none_the_empty_one(self):
        self.assertEqual(last(OPEN, finish(1, 0)), [0])
        self.assertEqual(finished(in_row(0, 1, 2), do(0, 0, 1, 2)), [0])
        self.assertEqual(finished(rounds(step(0), step(1)), do(0, 0)), [0])
        self.assertEqual(finished(either(step(0), NOTHING)), [0])

    def test_the_shorter_one(self):
        for told in (either(in_row(0, 1), step(5)), either(step(5), in_row(0, 1))):
            self.assertEqual(finished(told), [1, 5])
        for told in (either(in_row(4, 0, 0), in_row(4, 5)), either(in_row(4, 5), in_row(4, 0, 0))):
            self.assertEqual(finished(told, do(0, 4)), [1, 5])

    def test_of_as_long_ones_the_one_with_the_lower_step(self):
        for told in (either(step(3), step(2)), either(step(2), step(3))):
            self.assertEqual(finished(told), [1, 2])
        for told in (either(in_row(0, 3), in_row(0, 1)), either(in_row(0, 1), in_row(0, 3))):
            self.assertEqual(finished(told), [2, 0, 1])
            self.assertEqual(finished(told, do(0, 0)), [1, 1])

    def test_at_the_first_place_at_which_they_differ(self):
        for told in (either(in_row(1, 5), in_row(3, 0)), either(in_row(3, 0), in_row(1, 5))):
            self.assertEqual(finished(told), [2, 1, 5])
            self.assertEqual(finished(row(step(4), told), do(0, 4)), [2, 1, 5])

    def test_side_by_side(self):
        self.assertEqual(finished(beside(step(4), beside(step(1), in_row(3, 0)))), [4, 1, 3, 0, 4])
        self.assertEqual(finished(beside(step(4), beside(step(1), in_row(3, 0))), do(0, 3)), [3, 0, 1, 4])

    def test_rows_that_lead_to_several_places(self):
        # Behind 0 it may be in either; the lower step is in the one, then in the other.
        for told in (either(row(step(0), beside(step(3), step(1))), in_row(0, 2)),
                     either(in_row(0, 2), row(step(0), beside(step(3), step(1))))):
            self.assertEqual(finished(told, do(0, 0)), [1, 2])
            self.assertEqual(finished(told, do(0, 0), rule(0, 3, 1)), [2, 1, 3])
        told = rounds(step(0), either(step(2), either(step(1), NOTHING)))
        self.assertEqual(finished(told, do(0, 0), rule(0, 0, 2)), [1, 0])
        self.assertEqual(finished(told, do(0, 0), rule(0, 0, 2), rule(8, 0, 1)), [2, 1, 0])


class Rules(unittest.TestCase):
    def test_by_which_all_rules_were_kept(self):
        told = either(step(5), in_row(0, 1))
        self.assertEqual(finished(told, rule(0, 1, 1)), [2, 0, 1])
        self.assertEqual(finished(told, rule(1, 1, 0)), [1, 5])

    def test_not_the_empty_one_if_a_rule_asks_for_more(self):
        self.assertEqual(finished(rounds(step(0), NOTHING), do(0, 0), rule(0, 0, 3)), [2, 0, 0])
        self.assertEqual(finished(ANY, do(0, 0), rule(4, 0, 2)), [1, 2])
        self.assertEqual(finished(ANY, do(0, 2), rule(3, 1)), [1, 1])

    def test_round_after_round(self):
        told = rounds(in_row(0, 1), step(2))
        self.assertEqual(finished(told, rule(0, 2, 3)), [11, 0, 1, 2, 0, 1, 2, 0, 1, 2, 0, 1])
        self.assertEqual(finished(told, rule(0, 2, 3), do(0, 0, 1, 2, 0)), [7, 1, 2, 0, 1, 2, 0, 1])

    def test_two_rules_at_once(self):
        self.assertEqual(finished(ANY, rule(3, 0), rule(0, 1, 2)), [3, 1, 1, 0])
        self.assertEqual(finished(ANY, rule(2, 2), rule(8, 2, 1)), [1, 2])
        self.assertEqual(finished(ANY, rule(2, 2), rule(6, 2, 1)), [2, 2, 1])
        self.assertEqual(finished(ANY, rule(0, 2, 3), rule(8, 2, 1)), [5, 2, 1, 2, 1, 2])
        self.assertEqual(finished(ANY, rule(0, 0, 2), rule(6, 0, 1)), [4, 0, 1, 0, 1])

    def test_the_lower_step_only_where_rules_were_kept(self):
        self.assertEqual(finished(beside(step(0), step(1))), [2, 0, 1])
        self.assertEqual(finished(beside(step(0), step(1)), rule(3, 0)), [2, 1, 0])

    def test_rules_speak_of_what_was_done_too(self):
        self.assertEqual(finished(ANY, rule(0, 1, 2), do(0, 1)), [1, 1])
        self.assertEqual(finished(ANY, rule(0, 1, 2), do(0, 1, 0, 1)), [0])

    def test_no_such_way_on(self):
        self.assertEqual(finished(ANY, rule(1, 0, 0), do(0, 0)), [-6])
        self.assertEqual(finished(ANY, rule(2, 0), rule(1, 0, 0)), [-6])
        self.assertEqual(finished(in_row(0, 2), do(0, 0), rule(4, 0, 1)), [-6])
        self.assertEqual(finished(in_row(0, 2), do(0, 0, 2), rule(0, 2, 2)), [-6])
        self.assertEqual(last(OPEN, rule(3, 0), finish(2, 0)), [-6])


class Owed(unittest.TestCase):
    # Behind these the case stands at 2, 3, 1, and owes 2, 3.
    BEFORE = [process(step(1)), OPEN, do(0, 1), price(0, 1, 100), process(in_row(2, 3, 1, 4)), move(0)]

    def test_what_was_owed_then_the_way_on(self):
        self.assertEqual(last(*self.BEFORE, finish(6, 0)), [3, 2, 3, 4])
        self.assertEqual(last(*self.BEFORE, do(0, 2), finish(7, 0)), [2, 3, 4])
        self.assertEqual(last(*self.BEFORE, do(0, 2, 3), finish(8, 0)), [1, 4])
        self.assertEqual(last(*self.BEFORE, do(0, 2, 3, 4), finish(9, 0)), [0])

    def test_what_was_owed_then_none(self):
        before = [process(step(1)), OPEN, do(0, 1), price(0, 1, 100), process(in_row(2, 3, 1)), move(0)]
        self.assertEqual(last(*before, finish(6, 0)), [2, 2, 3])

    def test_rules_speak_of_what_was_done_then_owed_then_the_way_on(self):
        for told in ((2, 1), (3, 4), (6, 1, 2), (6, 2, 3), (6, 3, 4), (1, 2, 1)):
            self.assertEqual(last(*self.BEFORE, rule(*told), finish(7, 0)), [3, 2, 3, 4], told)
        for told in ((2, 2), (3, 1), (6, 1, 4), (6, 3, 1), (1, 2, 0), (0, 2, 2)):
            self.assertEqual(last(*self.BEFORE, rule(*told), finish(7, 0)), [-6], told)

    def test_a_way_on_that_is_longer_for_what_is_owed(self):
        # Owed is 2; behind each 2 there must be a 0, and the way on has one if it goes round again.
        before = [process(step(1)), OPEN, do(0, 1), price(0, 1, 100), process(row(step(2), rounds(step(1), step(0))))]
        self.assertEqual(ask(*before, move(0), finish(6, 0))[-2:], [[1, 2], [1, 2]])
        self.assertEqual(ask(*before, move(0), rule(4, 2, 0), finish(7, 0))[-1], [3, 2, 0, 1])


class Then(unittest.TestCase):
    def test_ahead_of_a_rule_that_came_later(self):
        before = [process(either(in_row(0, 1), in_row(0, 2, 3))), OPEN, do(0, 0), rule(0, 2, 1), rule(0, 1, 1)]
        self.assertEqual([last(*before, finish(time, 0)) for time in range(7)],
                         [[-2], [-2], [2, 0, 1], [1, 1], [2, 2, 3], [-6], [-4]])

    def test_ahead_of_a_process_and_a_move_that_came_later(self):
        before = [process(in_row(1, 2)), OPEN, do(0, 1), price(0, 1, 9), process(in_row(0, 1, 3)), move(0), do(0, 0)]
        self.assertEqual([last(*before, finish(time, 0)) for time in range(2, 9)],
                         [[2, 1, 2], [1, 2], [1, 2], [1, 2], [2, 0, 3], [1, 3], [-4]])

    def test_it_is_told_of_a_moment_as_it_was_told_at_it(self):
        calls = [process(ANY), OPEN, do(0, 0), rule(4, 0, 1), OPEN, do(1, 2), price(0, 0, 7), process(in_row(1, 0, 2)),
                 move(0), do(1, 0), rule(3, 2), do(0, 1), process(rounds(step(2), step(1))), move(1), move(0)]
        self.assertEqual([answered for answered in ask(*calls) if answered[0] < 0], [])
        for time in range(len(calls) + 1):
            for which in (0, 1):
                at_it = last(*calls[:time], finish(time, which))
                self.assertEqual(last(*calls, finish(time, which)), at_it, (time, which))


class Refused(unittest.TestCase):
    def test_less_has_been_done_than_that(self):
        self.assertEqual(last(finish(1, 0)), [-4])
        self.assertEqual(last(OPEN, finish(2, 0)), [-4])
        self.assertEqual(last(OPEN, finish(4294967295, 0)), [-4])
        self.assertEqual(last(OPEN, finish(1, 0)), [0])

    def test_there_was_no_such_case(self):
        self.assertEqual(last(finish(0, 0)), [-2])
        self.assertEqual(last(OPEN, finish(0, 0)), [-2])
        self.assertEqual(last(OPEN, finish(1, 1)), [-2])
        self.assertEqual(last(OPEN, OPEN, finish(1, 1)), [-2])
        self.assertEqual(last(OPEN, OPEN, finish(2, 1)), [0])
        self.assertEqual(last(OPEN, OPEN, OPEN, finish(3, 3)), [-2])
        self.assertEqual(last(OPEN, OPEN, OPEN, finish(3, 4294967295)), [-2])

    def test_of_several_the_one_told_first(self):
        lost = [OPEN, rule(2, 0)]
        self.assertEqual(last(*lost, finish(2, 0)), [-6])
        self.assertEqual(last(*lost, finish(2, 1)), [-2])
        self.assertEqual(last(*lost, finish(3, 0)), [-4])
        self.assertEqual(last(*lost, finish(3, 1)), [-4])


if __name__ == "__main__":
    unittest.main()
