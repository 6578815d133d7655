"""The whole line: how calls are handed in and answers given back, and how much may be done."""

import unittest

from movedcases.house import UnknownCall, answers
from tests.helper import NOTHING, OPEN, ask, do, in_row, last, line, move, price, process, rounds, rule, step

CHEAP = price(0, 0, 1)
ANY_0 = rounds(step(0), NOTHING)


class Form(unittest.TestCase):
    def test_each_answer_with_how_many_numbers_it_has(self):
        calls = [
            0, 4, 2, 0, 1, 1,
            3,
            4, 0, 1,
            1, 2, 3, 1,
            2, 0, 1, 100,
            0, 8, 2, 0, 2, 2, 0, 3, 0, 1,
            5, 0,
            4, 0, 1,
            1, 0,
            0, 0,
        ]
        self.assertEqual(answers(calls), [
            1, 1,
            1, 0,
            3, 1, 1, 1,
            2, 0, 0,
            1, 0,
            1, 2,
            1, 100,
            1, -5,
            1, -1,
            1, -1,
        ])

    def test_owed_steps_to_the_end(self):
        calls = line(process(step(1)), OPEN, do(0, 1), price(0, 1, 9), process(in_row(2, 3, 1)), move(0))
        self.assertEqual(answers(calls), [1, 1, 1, 0, 3, 1, 1, 1, 1, 0, 1, 2, 3, 2, 2, 3])

    def test_one_call(self):
        self.assertEqual(answers([3]), [1, 0])
        self.assertEqual(answers([0, 0]), [1, -1])
        self.assertEqual(answers([1, 0]), [1, -1])
        self.assertEqual(answers([5, 0]), [1, -2])
        self.assertEqual(answers([4, 0, 0]), [1, -2])

    def test_lists_of_forty_numbers_are_passed_over_whole(self):
        for kind in (0, 1):
            self.assertEqual(answers([kind, 40] + [3] * 40 + [3]), [1, -1, 1, 0])

    def test_what_is_handed_in_is_not_changed(self):
        calls = line(process(in_row(0, 1)), rule(3, 1), price(1, 2, 7), OPEN, do(0, 0, 1), process(step(6)),
                     process(in_row(2, 0)), move(0), rule(9), do(0, 2))
        before = list(calls)
        answers(calls)
        self.assertEqual(calls, before)

    def test_asked_twice_the_answer_is_the_same(self):
        calls = line(process(in_row(0, 1)), rule(3, 1), price(0, 0, 7), OPEN, do(0, 0), process(step(1)), move(0))
        first = answers(calls)
        self.assertEqual(first[-2:], [1, 7])
        first.append(99)
        self.assertEqual(answers(calls), first[:-1])
        self.assertEqual(answers(line(OPEN, process(step(1)), move(0))), [1, 0, 1, 1, 1, 0])

    def test_whole_numbers_and_nothing_else(self):
        given = answers(line(process(ANY_0), OPEN, rule(2, 0), CHEAP, do(0, 0), do(0, 1), process(ANY_0), move(0)))
        self.assertEqual([number for number in given if type(number) is not int], [])
        self.assertIs(type(given), list)

    def test_sixty_calls(self):
        self.assertEqual(ask(*[OPEN] * 60), [[0], [1], [2]] + [[-7]] * 57)


class Forty(unittest.TestCase):
    def test_forty_and_no_more(self):
        self.assertEqual(ask(*[CHEAP] * 42), [[0]] * 40 + [[-8]] * 2)

    def test_each_call_that_is_not_refused_is_one(self):
        # Seven others, and so 33 prices fill it.
        others = [process(ANY_0), OPEN, do(0, 0), rule(2, 0), process(step(0)), move(0), rule(0, 0, 0)]
        self.assertEqual(ask(*others), [[1], [0], [1, 1, 1], [0, 0], [2], [0], [1, 0]])
        self.assertEqual(ask(*others, *[CHEAP] * 34)[7:], [[0]] * 33 + [[-8]])

    def test_refusals_are_none(self):
        refused = [process([]), rule(9), price(2, 0, 1), do(0, 0), do(4, 0), move(3)]
        self.assertEqual(ask(*refused), [[-1], [-1], [-1], [-2], [-2], [-2]])
        self.assertEqual(ask(*refused, *[CHEAP] * 41)[6:], [[0]] * 40 + [[-8]])
        refused = [OPEN, OPEN, OPEN, OPEN, do(0, 0), move(0), rule(2, 0), rule(2, 0), rule(2, 0), *[process(ANY_0)] * 4]
        self.assertEqual(ask(*refused), [[0], [1], [2], [-7], [-5], [-3], [0, 3], [1, 3], [-7], [1], [2], [3], [-7]])
        self.assertEqual(ask(*refused, *[CHEAP] * 33)[13:], [[0]] * 32 + [[-8]])

    def test_no_way_over_and_five_were_done_are_none(self):
        before = [process(ANY_0), OPEN, do(0, 0, 0, 0, 0, 0), do(0, 0), process(step(1)), rule(1, 1, 0), move(0)]
        self.assertEqual(ask(*before)[7:], [[-7], [2], [0, 0], [-6]])
        self.assertEqual(ask(*before, *[CHEAP] * 32)[11:], [[0]] * 31 + [[-8]])

    def test_every_call_at_forty_and_one_short_of_it(self):
        full = [process(ANY_0), OPEN, *[CHEAP] * 37]
        for call, answered in ((process(NOTHING), [2]), (rule(2, 0), [0, 0]), (CHEAP, [0]), (OPEN, [1]),
                               (do(0, 0), [1, 1, 1])):
            self.assertEqual(last(*full, call), answered)
            self.assertEqual(last(*full, CHEAP, call), [-8])
        full = [OPEN, process(ANY_0), *[CHEAP] * 37]
        self.assertEqual(last(*full, move(0)), [0])
        self.assertEqual(last(*full, CHEAP, move(0)), [-8])


class OfSeveral(unittest.TestCase):
    """Of several refusals the one told first."""

    FULL = [CHEAP] * 40

    def test_form_is_ahead_of_forty(self):
        self.assertEqual(last(*self.FULL, process([])), [-1])
        self.assertEqual(last(*self.FULL, rule()), [-1])
        self.assertEqual(last(*self.FULL, price(0, 0, 0)), [-1])

    def test_forty_is_ahead_of_all_else(self):
        self.assertEqual(last(*self.FULL, do(0, 0)), [-8])
        self.assertEqual(last(*self.FULL, do(0, 9)), [-8])
        self.assertEqual(last(*self.FULL, move(0)), [-8])
        self.assertEqual(last(*[process(NOTHING)] * 3, *[CHEAP] * 37, process(NOTHING)), [-8])
        self.assertEqual(last(rule(2, 0), rule(2, 0), *[CHEAP] * 38, rule(2, 0)), [-8])
        self.assertEqual(last(OPEN, OPEN, OPEN, *[CHEAP] * 37, OPEN), [-8])
        self.assertEqual(last(OPEN, *[CHEAP] * 39, do(0, 0)), [-8])
        self.assertEqual(last(OPEN, *[CHEAP] * 39, move(0)), [-8])
        self.assertEqual(last(OPEN, rule(2, 0), process(NOTHING), *[CHEAP] * 37, move(0)), [-8])
        self.assertEqual(last(OPEN, rule(2, 0), process(NOTHING), *[CHEAP] * 36, move(0)), [-6])

    def test_form_is_ahead_of_how_many_there_are(self):
        self.assertEqual(last(*[process(NOTHING)] * 3, process([0, 6])), [-1])
        self.assertEqual(last(rule(2, 0), rule(2, 0), rule(2, 5)), [-1])

    def test_limits_and_one_short_of_them(self):
        self.assertEqual(ask(*[process(NOTHING)] * 4), [[1], [2], [3], [-7]])
        self.assertEqual(ask(*[rule(1, 0, 0)] * 3), [[0, 0], [1, 0], [-7]])
        self.assertEqual(ask(*[OPEN] * 4), [[0], [1], [2], [-7]])

    def test_a_rule_too_many_is_not_told(self):
        given = ask(process(ANY_0), OPEN, rule(0, 0, 1), rule(0, 0, 1), rule(1, 0, 0), do(0, 0))
        self.assertEqual(given[-2:], [[-7], [1, 1, 1]])


class NotBuilt(unittest.TestCase):
    def test_a_number_of_no_call(self):
        for number in (6, 7, 8, 9, 10, 11, 12, 4294967295):
            with self.assertRaises(UnknownCall):
                answers([3, number, 0, 0])


if __name__ == "__main__":
    unittest.main()
