"""Call 0: which processes there are, and which rows are their cases."""

import itertools
import unittest

from tests.helper import NOTHING, OPEN, ask, beside, do, either, in_row, last, process, rounds, row, step


def walked(told, steps):
    """The answers to doing these steps one after another in a new case of the process."""
    return ask(process(told), OPEN, do(0, *steps))[2:]


def rows_up_to(longest, *steps):
    for length in range(1, longest + 1):
        yield from itertools.product(steps, repeat=length)


class Cases(unittest.TestCase):
    def assert_cases(self, told, cases, beginnings):
        """Of all rows of at most four steps just these may be done, and just these are cases."""
        found_cases, found_beginnings = set(), set()
        for steps in rows_up_to(4, 0, 1, 2, 5):
            given = walked(told, steps)
            if [-5] not in given:
                self.assertEqual(given[-1][:2], [len(steps), 1])
                found_beginnings.add(steps)
                if given[-1][2] == 1:
                    found_cases.add(steps)
        self.assertEqual(found_cases, set(cases))
        self.assertEqual(found_beginnings, set(beginnings))

    def test_step(self):
        self.assert_cases(step(0), [(0,)], [(0,)])
        self.assert_cases(step(5), [(5,)], [(5,)])

    def test_nothing(self):
        self.assert_cases(NOTHING, [], [])

    def test_in_a_row(self):
        self.assert_cases(row(step(1), step(0)), [(1, 0)], [(1,), (1, 0)])
        self.assert_cases(row(NOTHING, step(0)), [(0,)], [(0,)])
        self.assert_cases(row(step(0), NOTHING), [(0,)], [(0,)])
        self.assert_cases(row(NOTHING, NOTHING), [], [])
        self.assert_cases(
            row(either(step(0), NOTHING), either(step(1), NOTHING)),
            [(0,), (1,), (0, 1)], [(0,), (1,), (0, 1)])

    def test_one_of_two(self):
        self.assert_cases(either(step(0), in_row(1, 2)), [(0,), (1, 2)], [(0,), (1,), (1, 2)])
        self.assert_cases(either(in_row(0, 1), in_row(0, 2)), [(0, 1), (0, 2)], [(0,), (0, 1), (0, 2)])
        self.assert_cases(either(NOTHING, step(2)), [(2,)], [(2,)])

    def test_side_by_side(self):
        self.assert_cases(beside(step(0), step(0)), [(0, 0)], [(0,), (0, 0)])
        self.assert_cases(beside(step(0), NOTHING), [(0,)], [(0,)])
        self.assert_cases(
            beside(in_row(0, 1), step(2)),
            [(0, 1, 2), (0, 2, 1), (2, 0, 1)],
            [(0,), (2,), (0, 1), (0, 2), (2, 0), (0, 1, 2), (0, 2, 1), (2, 0, 1)])

    def test_side_by_side_keeps_the_order_in_each(self):
        told = beside(in_row(0, 1), in_row(2, 5))
        cases = {steps for steps in itertools.permutations((0, 1, 2, 5))
                 if steps.index(0) < steps.index(1) and steps.index(2) < steps.index(5)}
        self.assertEqual(len(cases), 6)
        beginnings = {steps[:length] for steps in cases for length in range(1, 5)}
        self.assert_cases(told, cases, beginnings)

    def test_rounds(self):
        beginnings = [(0,), (0, 1), (0, 1, 0), (0, 1, 0, 1)]
        self.assert_cases(rounds(step(0), step(1)), [(0,), (0, 1, 0)], beginnings)
        self.assert_cases(rounds(step(0), NOTHING), [(0,) * n for n in range(1, 5)], [(0,) * n for n in range(1, 5)])
        self.assert_cases(
            rounds(in_row(0, 1), NOTHING), [(0, 1), (0, 1, 0, 1)], [(0,), (0, 1), (0, 1, 0), (0, 1, 0, 1)])

    def test_rounds_whose_second_may_be_empty(self):
        told = rounds(step(0), either(NOTHING, step(1)))
        every = [steps for steps in rows_up_to(4, 0, 1) if steps[0] == 0 and (1, 1) not in zip(steps, steps[1:])]
        self.assert_cases(told, [steps for steps in every if steps[-1] == 0], every)

    def test_rounds_within_rounds(self):
        told = rounds(rounds(step(0), step(1)), step(2))
        every = [steps for steps in rows_up_to(4, 0, 1, 2)
                 if all((number == 0) == (place % 2 == 0) for place, number in enumerate(steps))]
        self.assert_cases(told, [steps for steps in every if steps[-1] == 0], every)

    def test_rounds_side_by_side_with_a_step(self):
        told = beside(rounds(step(0), step(1)), step(2))
        cases, beginnings = set(), set()
        for steps in rows_up_to(4, 0, 1, 2):
            alone = [number for number in steps if number != 2]
            if steps.count(2) <= 1 and alone == [0, 1, 0, 1][:len(alone)]:
                beginnings.add(steps)
                if steps.count(2) == 1 and alone[-1:] == [0]:
                    cases.add(steps)
        self.assert_cases(told, cases, beginnings)

    def test_one_of_two_rounds(self):
        told = either(rounds(step(0), step(1)), rounds(step(0), step(2)))
        cases = [(0,), (0, 1, 0), (0, 2, 0)]
        self.assert_cases(told, cases, [(0, 1), (0, 1, 0, 1), (0, 2), (0, 2, 0, 2)] + cases)

    def test_process_0_is_nothing(self):
        for number in (0, 1, 5):
            self.assertEqual(last(OPEN, do(0, number)), [-5])


class Forms(unittest.TestCase):
    def assert_refused(self, *told):
        self.assertEqual(ask(process(told), OPEN, do(0, 0), process([0, 0])), [[-1], [0], [-5], [1]], told)

    def test_none(self):
        self.assert_refused()

    def test_too_few_numbers(self):
        self.assert_refused(0)
        for kind in (2, 3, 4, 5):
            self.assert_refused(kind)
            self.assert_refused(kind, 0)
            self.assert_refused(kind, 0, 0)
            self.assert_refused(kind, 0, 0, 0)
            self.assert_refused(kind, 0, 0, kind, 0, 0)

    def test_too_many_numbers(self):
        self.assert_refused(0, 0, 1)
        self.assert_refused(0, 0, 0)
        self.assert_refused(1, 1)
        self.assert_refused(1, 7)
        for kind in (2, 3, 4, 5):
            self.assert_refused(kind, 0, 0, 0, 1, 1)
            self.assert_refused(kind, 0, 0, 0, 1, 0, 2)

    def test_no_such_step(self):
        for number in (6, 7, 4294967295):
            self.assert_refused(0, number)
            self.assert_refused(2, 0, 0, 0, number)
            self.assert_refused(2, 0, number, 0, 0)

    def test_no_such_kind(self):
        for kind in (6, 7, 4294967295):
            self.assert_refused(kind)
            self.assert_refused(kind, 0, 0, 0, 1)
            self.assert_refused(2, 0, 0, kind)

    def test_each_kind_and_step_is_taken(self):
        for number in range(6):
            self.assertEqual(ask(process([0, number]), OPEN, do(0, number)), [[1], [0], [1, 1, 1]])
        self.assertEqual(last(process([1])), [1])
        for kind in (2, 3, 4, 5):
            self.assertEqual(last(process([kind, 0, 0, 0, 1])), [1])

    def test_nine_parts_and_more(self):
        for kind in (2, 3, 4, 5):
            for leaf in ([0, 0], [0, 5]):
                nine = [kind] * 4 + leaf * 5
                self.assertEqual(last(process(nine)), [1])
                self.assert_refused(*([kind] * 5 + leaf * 6))
                self.assert_refused(*([kind] + leaf + nine))
                self.assert_refused(*([kind] * 4 + leaf * 6))
                self.assert_refused(*([kind] * 5 + leaf * 5))
        for kind in (2, 3, 4):
            self.assertEqual(last(process([kind] * 4 + [1] * 5)), [1])
            self.assert_refused(*([kind] * 5 + [1] * 6))

    def test_nine_parts_leaning_either_way(self):
        right = in_row(0, 1, 2, 3, 4)
        left = [2] * 4 + [0, 0, 0, 1, 0, 2, 0, 3, 0, 4]
        for told in (left, right):
            self.assertEqual(walked(told, range(5)), [[n, 1, 1 if n == 5 else 0] for n in range(1, 6)])

    def test_forty_numbers(self):
        self.assert_refused(*([2] * 13 + [0, 0] * 13 + [1]))
        self.assert_refused(*([4] * 13 + [0, 1] * 13 + [1]))
        self.assert_refused(*([2] * 40))
        self.assert_refused(*([4] * 19 + [1] * 20))
        self.assert_refused(*([1] * 40))
        self.assert_refused(*([4294967295] * 40))

    def test_rounds_whose_first_has_the_empty_row(self):
        empty = [
            NOTHING, row(NOTHING, NOTHING), beside(NOTHING, NOTHING), either(NOTHING, NOTHING),
            either(step(0), NOTHING), either(NOTHING, step(0)),
            row(either(step(0), NOTHING), NOTHING), beside(either(step(0), NOTHING), NOTHING),
            either(step(0), row(NOTHING, NOTHING)),
        ]
        for first in empty:
            self.assert_refused(*rounds(first, step(0)))
            self.assert_refused(*rounds(first, NOTHING))
            self.assert_refused(*row(step(0), rounds(first, step(1))))
            self.assert_refused(*either(rounds(first, step(1)), step(0)))
            self.assertEqual(last(process(rounds(step(0), first))), [1], first)

    def test_rounds_within_the_second_of_rounds(self):
        self.assert_refused(*rounds(step(0), rounds(NOTHING, step(1))))
        self.assertEqual(last(process(rounds(step(0), rounds(step(1), NOTHING)))), [1])

    def test_rounds_whose_first_has_a_step_at_least(self):
        full = [
            step(0), row(step(0), NOTHING), row(NOTHING, step(0)), beside(step(0), NOTHING), beside(NOTHING, step(0)),
            either(step(0), step(1)), rounds(step(0), NOTHING),
        ]
        for first in full:
            self.assertEqual(last(process(rounds(first, NOTHING))), [1], first)


class Numbers(unittest.TestCase):
    def test_they_are_numbered_from_1_behind_process_0(self):
        told = [process(step(number)) for number in range(3)]
        self.assertEqual(ask(*told), [[1], [2], [3]])

    def test_a_case_goes_by_the_one_that_was_the_newest(self):
        given = ask(process(step(1)), OPEN, process(step(2)), OPEN,
                    do(0, 2), do(1, 1), do(0, 1), do(1, 2))
        self.assertEqual(given, [[1], [0], [2], [1], [-5], [-5], [1, 1, 1], [1, 1, 1]])

    def test_a_refused_one_is_not_the_newest(self):
        given = ask(process(step(1)), process(step(6)), OPEN, do(0, 1), process(step(1)))
        self.assertEqual(given, [[1], [-1], [0], [1, 1, 1], [2]])

    def test_four_with_process_0(self):
        three = [process(step(number)) for number in range(3)]
        given = ask(*three, process(step(4)), process(step(6)), OPEN, do(0, 4), do(0, 2))
        self.assertEqual(given, [[1], [2], [3], [-7], [-1], [0], [-5], [1, 1, 1]])


if __name__ == "__main__":
    unittest.main()
