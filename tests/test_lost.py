"""Call 10: the cases in which not all rules can be kept any more."""

import unittest

from tests.helper import LOST_CASES, NOTHING, OPEN, ask, do, either, in_row, last, move, price, process, rounds, rule, step

ANY = rounds(either(step(0), either(step(1), step(2))), NOTHING)


class Lost(unittest.TestCase):
    def test_no_case(self):
        self.assertEqual(last(LOST_CASES), [0])
        self.assertEqual(last(rule(2, 0), LOST_CASES), [0])
        self.assertEqual(last(OPEN, OPEN, OPEN, LOST_CASES), [0])
        self.assertEqual(last(process(ANY), OPEN, OPEN, do(0, 1), rule(0, 0, 3), LOST_CASES), [0])

    def test_some(self):
        before = [process(ANY), OPEN, OPEN, OPEN, do(0, 1), do(1, 0), do(2, 0, 1)]
        self.assertEqual(last(*before, rule(2, 0), LOST_CASES), [1, 0])
        self.assertEqual(last(*before, rule(2, 1), LOST_CASES), [2, 1, 2])
        self.assertEqual(last(*before, rule(1, 1, 0), LOST_CASES), [2, 0, 2])
        self.assertEqual(last(*before, rule(7, 0, 1), LOST_CASES), [1, 2])

    def test_all(self):
        before = [process(ANY), OPEN, OPEN, OPEN, do(0, 1), do(1, 0), do(2, 0, 1)]
        self.assertEqual(last(*before, rule(2, 2), LOST_CASES), [3, 0, 1, 2])
        self.assertEqual(last(OPEN, rule(3, 4), LOST_CASES), [1, 0])

    def test_before_and_behind_a_rule(self):
        given = ask(process(ANY), OPEN, OPEN, do(1, 0), LOST_CASES, rule(1, 0, 0), LOST_CASES, rule(2, 0), LOST_CASES)
        self.assertEqual(given[4:], [[0], [0, 1], [1, 1], [1, 2], [2, 0, 1]])

    def test_a_rule_that_is_refused_loses_no_case(self):
        given = ask(process(ANY), OPEN, do(0, 0), rule(2, 5), LOST_CASES, rule(2, 0), rule(2, 0), rule(2, 1), LOST_CASES)
        self.assertEqual(given[-2:], [[-7], [0]])
        self.assertEqual(given[3:5], [[-1], [0]])

    def test_before_and_behind_a_step(self):
        given = ask(process(ANY), OPEN, rule(1, 1, 1), do(0, 1), LOST_CASES, do(0, 1), LOST_CASES, do(0, 0), LOST_CASES)
        self.assertEqual(given[3:], [[1, 1, 1], [0], [2, 0, 0], [1, 0], [3, 0, 0], [1, 0]])

    def test_before_and_behind_a_move(self):
        given = ask(process(in_row(0, 2)), OPEN, OPEN, do(0, 0), do(1, 0), rule(4, 0, 1), LOST_CASES,
                    process(in_row(0, 1)), LOST_CASES, move(0), LOST_CASES, move(1), LOST_CASES)
        self.assertEqual(given[5:], [[0, 2], [2, 0, 1], [2], [2, 0, 1], [0], [1, 1], [0], [0]])

    def test_behind_a_move_that_is_refused(self):
        given = ask(process(in_row(0, 2)), OPEN, do(0, 0), rule(1, 0, 0), process(in_row(0, 1)), move(0), LOST_CASES)
        self.assertEqual(given[-2:], [[-6], [1, 0]])

    def test_each_case_by_its_own_process(self):
        before = [process(step(0)), OPEN, process(step(1)), OPEN]
        self.assertEqual(last(*before, rule(0, 0, 1), LOST_CASES), [1, 1])
        self.assertEqual(last(*before, rule(0, 1, 1), LOST_CASES), [1, 0])
        self.assertEqual(last(*before, rule(0, 2, 1), LOST_CASES), [2, 0, 1])

    def test_what_is_owed_counts(self):
        # Done is 1, owed is 0, and then there's nothing more.
        before = [process(step(1)), OPEN, do(0, 1), price(0, 1, 9), process(in_row(0, 1)), move(0)]
        self.assertEqual(last(*before, rule(3, 0), LOST_CASES), [0])
        self.assertEqual(last(*before, rule(3, 1), LOST_CASES), [1, 0])
        self.assertEqual(last(*before, rule(1, 0, 0), LOST_CASES), [1, 0])

    def test_it_says_what_rule_and_do_say(self):
        given = ask(process(ANY), OPEN, OPEN, do(0, 0), rule(8, 0, 1), LOST_CASES, do(0, 0), LOST_CASES,
                    rule(0, 3, 1), LOST_CASES)
        self.assertEqual(given[4:], [[0, 0], [0], [2, 0, 0], [1, 0], [1, 2], [2, 0, 1]])

    def test_of_now_alone(self):
        given = ask(process(ANY), OPEN, LOST_CASES, rule(2, 0), do(0, 1), LOST_CASES, OPEN, LOST_CASES)
        self.assertEqual([given[2], given[5], given[7]], [[0], [1, 0], [1, 0]])

    def test_it_may_be_asked_when_forty_have_been_done(self):
        before = [OPEN, rule(2, 0), *[price(0, 0, 1)] * 39]
        self.assertEqual(ask(*before, LOST_CASES)[-2:], [[-8], [1, 0]])


if __name__ == "__main__":
    unittest.main()
