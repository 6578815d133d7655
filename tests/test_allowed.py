"""Call 7: what might be done at a moment so that all rules could still be kept."""

import unittest

from tests.helper import (
    NOTHING, OPEN, allowed, ask, beside, do, either, in_row, last, move, price, process, rounds, row, rule, step)

ANY = rounds(either(step(0), either(step(1), step(2))), NOTHING)


class Now(unittest.TestCase):
    def test_through_and_not(self):
        self.assertEqual(last(OPEN, allowed(1, 0)), [1])
        before = [process(in_row(0, 1)), OPEN, do(0, 0, 1)]
        self.assertEqual(last(*before[:2], allowed(2, 0)), [0, 0])
        self.assertEqual(last(*before, allowed(3, 0)), [0, 1])
        self.assertEqual(last(*before, allowed(4, 0)), [1])

    def test_through_and_more_may_be_done(self):
        before = [process(rounds(step(3), step(1))), OPEN, do(0, 3)]
        self.assertEqual(last(*before, allowed(3, 0)), [1, 1])
        self.assertEqual(last(*before, do(0, 1), allowed(4, 0)), [0, 3])

    def test_at_a_case_but_a_rule_is_not_kept(self):
        before = [process(ANY), OPEN, rule(3, 1), do(0, 0)]
        self.assertEqual(last(*before, allowed(4, 0)), [0, 0, 1, 2])
        self.assertEqual(last(*before, do(0, 1), allowed(5, 0)), [1, 0, 1, 2])

    def test_the_steps_rise(self):
        rows = beside(step(5), beside(step(2), either(step(4), row(step(0), step(3)))))
        self.assertEqual(last(process(rows), OPEN, allowed(2, 0)), [0, 0, 2, 4, 5])
        for told in (either(step(1), step(0)), either(step(0), step(1))):
            self.assertEqual(last(process(told), OPEN, allowed(2, 0)), [0, 0, 1])

    def test_each_step_once(self):
        self.assertEqual(last(process(either(in_row(3, 1), in_row(3, 2))), OPEN, allowed(2, 0)), [0, 3])
        self.assertEqual(last(process(beside(step(5), step(5))), OPEN, do(0, 5), allowed(3, 0)), [0, 5])

    def test_only_steps_behind_which_all_rules_could_be_kept(self):
        told = either(in_row(0, 1), either(in_row(2, 0), step(1)))
        self.assertEqual(last(process(told), OPEN, allowed(2, 0)), [0, 0, 1, 2])
        self.assertEqual(last(process(told), OPEN, rule(0, 1, 1), allowed(3, 0)), [0, 0, 1])
        self.assertEqual(last(process(told), OPEN, rule(0, 1, 1), rule(0, 0, 1), allowed(4, 0)), [0, 0])
        self.assertEqual(last(process(told), OPEN, rule(0, 1, 1), rule(0, 2, 1), allowed(4, 0)), [0])

    def test_a_step_that_breaks_a_rule_for_good(self):
        before = [process(ANY), OPEN, rule(1, 0, 1), rule(8, 1, 2), do(0, 0)]
        self.assertEqual(last(*before, allowed(5, 0)), [1, 1, 2])
        self.assertEqual(last(*before, do(0, 1), allowed(6, 0)), [1, 2])
        self.assertEqual(last(*before, do(0, 1, 2), allowed(7, 0)), [1, 1, 2])

    def test_a_step_that_must_come_right_behind(self):
        before = [process(ANY), OPEN, rule(6, 0, 1), do(0, 0)]
        self.assertEqual(last(*before, allowed(4, 0)), [0, 1])
        self.assertEqual(last(*before, do(0, 1), allowed(5, 0)), [1, 0, 1, 2])

    def test_a_case_that_is_lost(self):
        before = [process(ANY), OPEN, do(0, 0)]
        self.assertEqual(last(*before, allowed(3, 0)), [1, 0, 1, 2])
        self.assertEqual(last(*before, rule(2, 1), allowed(4, 0)), [0])

    def test_one_that_was_through_but_a_rule_came(self):
        before = [process(either(step(0), in_row(0, 1))), OPEN, do(0, 0), rule(0, 1, 1)]
        self.assertEqual(last(*before, allowed(3, 0)), [1, 1])
        self.assertEqual(last(*before, allowed(4, 0)), [0, 1])

    def test_five_were_done(self):
        # What may be done next is told by where it stands: how many were done says nothing of it.
        before = [process(rounds(step(0), NOTHING)), OPEN, do(0, 0, 0, 0, 0, 0)]
        self.assertEqual(ask(*before, do(0, 0), allowed(7, 0))[-2:], [[-7], [1, 0]])

    def test_it_may_be_asked_when_forty_have_been_done(self):
        before = [process(step(4)), OPEN, *[price(0, 0, 1)] * 38]
        self.assertEqual(ask(*before, do(0, 4), allowed(40, 0))[-2:], [[-8], [0, 4]])
        self.assertEqual(last(*before, allowed(41, 0)), [-4])


class Owed(unittest.TestCase):
    # Behind these the case stands at 2, 3, 1, and owes 2, 3.
    BEFORE = [process(step(1)), OPEN, do(0, 1), price(0, 1, 100), process(in_row(2, 3, 1, 4)), move(0)]

    def test_just_the_first(self):
        self.assertEqual(last(*self.BEFORE, allowed(6, 0)), [0, 2])
        self.assertEqual(last(*self.BEFORE, do(0, 2), allowed(7, 0)), [0, 3])
        self.assertEqual(last(*self.BEFORE, do(0, 2, 3), allowed(8, 0)), [0, 4])
        self.assertEqual(last(*self.BEFORE, do(0, 2, 3, 4), allowed(9, 0)), [1])

    def test_at_a_case_but_something_is_owed(self):
        before = [process(step(1)), OPEN, do(0, 1), price(0, 1, 100), process(in_row(2, 1)), move(0)]
        self.assertEqual(last(*before, allowed(6, 0)), [0, 2])
        self.assertEqual(last(*before, do(0, 2), allowed(7, 0)), [1])

    def test_rules_that_could_not_be_kept_behind_it(self):
        self.assertEqual(last(*self.BEFORE, rule(1, 2, 0), allowed(7, 0)), [0])
        self.assertEqual(last(*self.BEFORE, rule(1, 2, 1), allowed(7, 0)), [0, 2])
        self.assertEqual(last(*self.BEFORE, rule(2, 2), allowed(7, 0)), [0])
        self.assertEqual(last(*self.BEFORE, rule(6, 1, 2), allowed(7, 0)), [0, 2])

    def test_what_else_is_owed_is_ahead_of_the_way_on(self):
        # 3 is still owed behind 2, and so comes ahead of 4.
        self.assertEqual(last(*self.BEFORE, rule(6, 2, 4), allowed(7, 0)), [0])
        self.assertEqual(last(*self.BEFORE, rule(6, 2, 3), allowed(7, 0)), [0, 2])
        self.assertEqual(last(*self.BEFORE, rule(3, 4), allowed(7, 0)), [0, 2])


class Then(unittest.TestCase):
    def test_ahead_of_a_rule_that_was_told_later(self):
        before = [process(ANY), OPEN, rule(1, 0, 0), do(0, 1), rule(2, 2)]
        self.assertEqual([last(*before, allowed(time, 0)) for time in range(7)],
                         [[-2], [-2], [0, 0, 1, 2], [0, 1, 2], [1, 1, 2], [0], [-4]])

    def test_ahead_of_a_process_and_a_move_that_were_told_later(self):
        before = [process(in_row(0, 1)), OPEN, do(0, 0), process(in_row(0, 2)), move(0), do(0, 2)]
        self.assertEqual([last(*before, allowed(time, 0)) for time in range(2, 7)],
                         [[0, 0], [0, 1], [0, 1], [0, 2], [1]])

    def test_a_case_that_was_saved_by_a_move(self):
        before = [process(in_row(0, 2)), OPEN, do(0, 0), rule(4, 0, 1), process(in_row(0, 1)), move(0)]
        self.assertEqual([last(*before, allowed(time, 0)) for time in range(2, 7)],
                         [[0, 0], [0, 2], [0], [0], [0, 1]])

    def test_it_is_told_of_a_moment_as_it_was_told_at_it(self):
        calls = [process(ANY), OPEN, do(0, 0), rule(8, 0, 1), OPEN, do(1, 2), price(0, 0, 7), process(in_row(1, 0, 2)),
                 move(0), do(1, 0), rule(3, 2), do(0, 1), process(rounds(step(2), step(0))), move(1), move(0)]
        self.assertEqual([answered for answered in ask(*calls) if answered[0] < 0], [])
        for time in range(len(calls) + 1):
            for which in (0, 1):
                at_it = last(*calls[:time], allowed(time, which))
                self.assertEqual(last(*calls, allowed(time, which)), at_it, (time, which))


class Refused(unittest.TestCase):
    def test_less_has_been_done_than_that(self):
        self.assertEqual(last(allowed(1, 0)), [-4])
        self.assertEqual(last(OPEN, allowed(2, 0)), [-4])
        self.assertEqual(last(OPEN, allowed(4294967295, 0)), [-4])
        self.assertEqual(last(OPEN, allowed(1, 0)), [1])

    def test_there_was_no_such_case(self):
        self.assertEqual(last(allowed(0, 0)), [-2])
        self.assertEqual(last(OPEN, allowed(0, 0)), [-2])
        self.assertEqual(last(OPEN, allowed(1, 1)), [-2])
        self.assertEqual(last(OPEN, OPEN, allowed(1, 1)), [-2])
        self.assertEqual(last(OPEN, OPEN, allowed(2, 1)), [1])
        self.assertEqual(last(OPEN, OPEN, OPEN, allowed(3, 3)), [-2])
        self.assertEqual(last(OPEN, OPEN, OPEN, allowed(3, 4294967295)), [-2])

    def test_of_both_the_one_told_first(self):
        self.assertEqual(last(OPEN, allowed(2, 1)), [-4])


class Promise(unittest.TestCase):
    def check_all_that_can_be_done(self, told, rules):
        """Goes on with each allowed step; gives back how often one was allowed, and how often it wasn't."""
        found = [0, 0]
        waiting = [[]]
        while waiting:
            done = waiting.pop()
            before = [process(told), OPEN, *rules, do(0, *done)]
            steps = last(*before, allowed(2 + len(rules) + len(done), 0))[1:]
            for number in range(6) if len(done) < 5 else ():
                answered = last(*before, do(0, number))
                self.assertEqual(answered[1:2] == [1], number in steps, (rules, done, number))
                found[0 if number in steps else 1] += answered != [-5]
                if number in steps:
                    waiting.append(done + [number])
        return found

    def test_whoever_only_does_what_is_allowed_loses_no_case(self):
        told = either(in_row(0, 1), rounds(step(2), either(step(0), step(1))))
        for rules in ([rule(1, 2, 2)], [rule(4, 0, 1), rule(3, 2)], [rule(7, 0, 1), rule(1, 2, 3)]):
            found = self.check_all_that_can_be_done(told, rules)
            self.assertGreater(min(found), 0, rules)


if __name__ == "__main__":
    unittest.main()
