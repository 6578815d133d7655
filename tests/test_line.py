"""The whole line: how calls are handed in and answers given back, and how much may be done."""

import unittest

from movedcases.house import answers
from tests.helper import (
    LOST_CASES, MOMENT, NOTHING, OPEN, allowed, ask, case, do, finish, in_row, last, line, move, over, price, process,
    rounds, rule, step, taken_apart)

CHEAP = price(0, 0, 1)
ANY_0 = rounds(step(0), NOTHING)

# All twelve calls, and what each answers.
TWELVE = (
    (MOMENT, [0]),
    (process(in_row(1, 2)), [1]),
    (OPEN, [0]),
    (case(1, 0), [-2]),
    (do(0, 1), [1, 1, 0]),
    (allowed(3, 0), [0, 2]),
    (price(0, 1, 9), [0]),
    (finish(4, 0), [1, 2]),
    (process(in_row(0, 1, 3)), [2]),
    (over(0), [1, 2, 0, 0, 1]),
    (rule(0, 3, 1), [0, 1]),
    (LOST_CASES, [1, 0]),
    (finish(6, 0), [-6]),
    (move(0), [1, 0]),
    (LOST_CASES, [0]),
    (case(7, 0), [2, 2, 0, 1, 1, 0, 1, 1]),
    (finish(7, 0), [2, 0, 3]),
    (do(0, 0), [2, 1, 0]),
    (do(0, 3), [3, 1, 1]),
    (allowed(9, 0), [1]),
    (case(4, 0), [1, 1, 1, 0, 1, 1]),
    (MOMENT, [9]),
)


class Form(unittest.TestCase):
    def test_each_answer_with_how_many_numbers_it_has(self):
        calls = [
            0, 4, 2, 0, 1, 1,
            3,
            4, 0, 1,
            1, 2, 3, 1,
            2, 0, 1, 100,
            0, 8, 2, 0, 2, 2, 0, 3, 0, 1,
            5, 0,
            4, 0, 1,
            1, 0,
            0, 0,
        ]
        self.assertEqual(answers(calls), [
            1, 1,
            1, 0,
            3, 1, 1, 1,
            2, 0, 0,
            1, 0,
            1, 2,
            1, 100,
            1, -5,
            1, -1,
            1, -1,
        ])

    def test_owed_steps_to_the_end(self):
        calls = line(process(step(1)), OPEN, do(0, 1), price(0, 1, 9), process(in_row(2, 3, 1)), move(0))
        self.assertEqual(answers(calls), [1, 1, 1, 0, 3, 1, 1, 1, 1, 0, 1, 2, 3, 2, 2, 3])

    def test_one_call(self):
        self.assertEqual(answers([3]), [1, 0])
        self.assertEqual(answers([0, 0]), [1, -1])
        self.assertEqual(answers([1, 0]), [1, -1])
        self.assertEqual(answers([5, 0]), [1, -2])
        self.assertEqual(answers([4, 0, 0]), [1, -2])

    def test_lists_of_forty_numbers_are_passed_over_whole(self):
        for kind in (0, 1):
            self.assertEqual(answers([kind, 40] + [3] * 40 + [3]), [1, -1, 1, 0])

    def test_what_is_handed_in_is_not_changed(self):
        calls = line(process(in_row(0, 1)), rule(3, 1), price(1, 2, 7), OPEN, do(0, 0, 1), process(step(6)),
                     process(in_row(2, 0)), move(0), rule(9), do(0, 2))
        before = list(calls)
        answers(calls)
        self.assertEqual(calls, before)

    def test_asked_twice_the_answer_is_the_same(self):
        calls = line(process(in_row(0, 1)), rule(3, 1), price(0, 0, 7), OPEN, do(0, 0), process(step(1)), move(0))
        first = answers(calls)
        self.assertEqual(first[-2:], [1, 7])
        first.append(99)
        self.assertEqual(answers(calls), first[:-1])
        self.assertEqual(answers(line(OPEN, process(step(1)), move(0))), [1, 0, 1, 1, 1, 0])

    def test_whole_numbers_and_nothing_else(self):
        given = answers(line(process(ANY_0), OPEN, rule(2, 0), CHEAP, do(0, 0), do(0, 1), process(ANY_0), move(0)))
        self.assertEqual([number for number in given if type(number) is not int], [])
        self.assertIs(type(given), list)

    def test_sixty_calls(self):
        self.assertEqual(ask(*[OPEN] * 60), [[0], [1], [2]] + [[-7]] * 57)


class Forty(unittest.TestCase):
    def test_forty_and_no_more(self):
        self.assertEqual(ask(*[CHEAP] * 42), [[0]] * 40 + [[-8]] * 2)

    def test_each_call_that_is_not_refused_is_one(self):
        # Seven others, and so 33 prices fill it.
        others = [process(ANY_0), OPEN, do(0, 0), rule(2, 0), process(step(0)), move(0), rule(0, 0, 0)]
        self.assertEqual(ask(*others), [[1], [0], [1, 1, 1], [0, 0], [2], [0], [1, 0]])
        self.assertEqual(ask(*others, *[CHEAP] * 34)[7:], [[0]] * 33 + [[-8]])

    def test_refusals_are_none(self):
        refused = [process([]), rule(9), price(2, 0, 1), do(0, 0), do(4, 0), move(3)]
        self.assertEqual(ask(*refused), [[-1], [-1], [-1], [-2], [-2], [-2]])
        self.assertEqual(ask(*refused, *[CHEAP] * 41)[6:], [[0]] * 40 + [[-8]])
        refused = [OPEN, OPEN, OPEN, OPEN, do(0, 0), move(0), rule(2, 0), rule(2, 0), rule(2, 0), *[process(ANY_0)] * 4]
        self.assertEqual(ask(*refused), [[0], [1], [2], [-7], [-5], [-3], [0, 3], [1, 3], [-7], [1], [2], [3], [-7]])
        self.assertEqual(ask(*refused, *[CHEAP] * 33)[13:], [[0]] * 32 + [[-8]])

    def test_no_way_over_and_five_were_done_are_none(self):
        before = [process(ANY_0), OPEN, do(0, 0, 0, 0, 0, 0), do(0, 0), process(step(1)), rule(1, 1, 0), move(0)]
        self.assertEqual(ask(*before)[7:], [[-7], [2], [0, 0], [-6]])
        self.assertEqual(ask(*before, *[CHEAP] * 32)[11:], [[0]] * 31 + [[-8]])

    def test_every_call_at_forty_and_one_short_of_it(self):
        full = [process(ANY_0), OPEN, *[CHEAP] * 37]
        for call, answered in ((process(NOTHING), [2]), (rule(2, 0), [0, 0]), (CHEAP, [0]), (OPEN, [1]),
                               (do(0, 0), [1, 1, 1])):
            self.assertEqual(last(*full, call), answered)
            self.assertEqual(last(*full, CHEAP, call), [-8])
        full = [OPEN, process(ANY_0), *[CHEAP] * 37]
        self.assertEqual(last(*full, move(0)), [0])
        self.assertEqual(last(*full, CHEAP, move(0)), [-8])


class OfSeveral(unittest.TestCase):
    """Of several refusals the one told first."""

    FULL = [CHEAP] * 40

    def test_form_is_ahead_of_forty(self):
        self.assertEqual(last(*self.FULL, process([])), [-1])
        self.assertEqual(last(*self.FULL, rule()), [-1])
        self.assertEqual(last(*self.FULL, price(0, 0, 0)), [-1])

    def test_forty_is_ahead_of_all_else(self):
        self.assertEqual(last(*self.FULL, do(0, 0)), [-8])
        self.assertEqual(last(*self.FULL, do(0, 9)), [-8])
        self.assertEqual(last(*self.FULL, move(0)), [-8])
        self.assertEqual(last(*[process(NOTHING)] * 3, *[CHEAP] * 37, process(NOTHING)), [-8])
        self.assertEqual(last(rule(2, 0), rule(2, 0), *[CHEAP] * 38, rule(2, 0)), [-8])
        self.assertEqual(last(OPEN, OPEN, OPEN, *[CHEAP] * 37, OPEN), [-8])
        self.assertEqual(last(OPEN, *[CHEAP] * 39, do(0, 0)), [-8])
        self.assertEqual(last(OPEN, *[CHEAP] * 39, move(0)), [-8])
        self.assertEqual(last(OPEN, rule(2, 0), process(NOTHING), *[CHEAP] * 37, move(0)), [-8])
        self.assertEqual(last(OPEN, rule(2, 0), process(NOTHING), *[CHEAP] * 36, move(0)), [-6])

    def test_form_is_ahead_of_how_many_there_are(self):
        self.assertEqual(last(*[process(NOTHING)] * 3, process([0, 6])), [-1])
        self.assertEqual(last(rule(2, 0), rule(2, 0), rule(2, 5)), [-1])

    def test_limits_and_one_short_of_them(self):
        self.assertEqual(ask(*[process(NOTHING)] * 4), [[1], [2], [3], [-7]])
        self.assertEqual(ask(*[rule(1, 0, 0)] * 3), [[0, 0], [1, 0], [-7]])
        self.assertEqual(ask(*[OPEN] * 4), [[0], [1], [2], [-7]])

    def test_a_rule_too_many_is_not_told(self):
        given = ask(process(ANY_0), OPEN, rule(0, 0, 1), rule(0, 0, 1), rule(1, 0, 0), do(0, 0))
        self.assertEqual(given[-2:], [[-7], [1, 1, 1]])


class Twelve(unittest.TestCase):
    CALLS = [call for call, answered in TWELVE]

    def test_each_answer_with_how_many_numbers_it_has(self):
        self.assertEqual({call[0] for call in self.CALLS}, set(range(12)))
        self.assertEqual(answers(line(*self.CALLS)), line(*[[len(answered)] + answered for call, answered in TWELVE]))

    def test_written_out(self):
        self.assertEqual(
            answers([3, 6, 1, 0, 7, 1, 0, 8, 1, 0, 9, 0, 10, 11, 6, 2, 0, 7, 1, 1, 8, 0, 0, 9, 1]),
            [1, 0, 4, 0, 0, 0, 0, 1, 1, 1, 0, 1, 0, 1, 0, 1, 1, 1, -4, 1, -2, 1, -2, 1, -2])

    def test_one_call(self):
        self.assertEqual(answers([6, 0, 0]), [1, -2])
        self.assertEqual(answers([7, 0, 0]), [1, -2])
        self.assertEqual(answers([8, 1, 0]), [1, -4])
        self.assertEqual(answers([9, 0]), [1, -2])
        self.assertEqual(answers([10]), [1, 0])
        self.assertEqual(answers([11]), [1, 0])

    def test_what_is_handed_in_is_not_changed(self):
        calls = line(*self.CALLS)
        before = list(calls)
        answers(calls)
        self.assertEqual(calls, before)

    def test_asked_twice_the_answer_is_the_same(self):
        first = answers(line(*self.CALLS))
        self.assertEqual(answers(line(OPEN, MOMENT, LOST_CASES, over(0))), [1, 0, 1, 1, 1, 0, 1, 0])
        self.assertEqual(answers(line(*self.CALLS)), first)

    def test_an_answer_that_is_changed_changes_no_other(self):
        first = answers(line(*self.CALLS))
        kept = list(first)
        first.clear()
        self.assertEqual(answers(line(*self.CALLS)), kept)

    def test_whole_numbers_and_nothing_else(self):
        given = answers(line(*self.CALLS))
        self.assertEqual([number for number in given if type(number) is not int], [])
        self.assertIs(type(given), list)

    def test_nothing_but_a_refusal_is_below_0(self):
        for answered in taken_apart(answers(line(*self.CALLS))):
            self.assertTrue(len(answered) == 1 or min(answered) >= 0, answered)

    def test_a_line_of_sixty_calls(self):
        few = [*self.CALLS, over(0), over(1), move(0), do(0, 0), do(1, 0), do(4, 0), rule(9)]
        given = ask(*few)
        self.assertEqual(given[22:], [[2, 2, 0, 0, 1, 1, 0, 0, 3], [-2], [-3], [-5], [-2], [-2], [-1]])
        rest = [MOMENT, *[CHEAP] * 29, LOST_CASES]
        self.assertEqual(ask(*few, *rest), given + [[9]] + [[0]] * 29 + [[0]])
        # As long as a line may be, with as much of each as may be asked.
        numbers = [call[0] for call in few + rest]
        self.assertEqual(len(numbers), 60)
        for some, most in (((5, 9), 5), ((6, 7, 8), 8), ((1, 4, 7, 8, 10), 16)):
            self.assertEqual(sum(number in some for number in numbers), most)

    def test_forty_done_and_twenty_asked(self):
        calls = [process(ANY_0), OPEN, do(0, 0), *[CHEAP] * 37]
        asked = [MOMENT] * 12 + [case(40, 0), allowed(40, 0), finish(40, 0), over(0), LOST_CASES, case(41, 0), OPEN]
        given = ask(*calls, *asked, MOMENT)
        self.assertEqual(len(given), 60)
        self.assertEqual(given[40:], [[40]] * 12 + [[1, 1, 0, 0, 1, 0], [1, 0], [0], [0, 0, 0], [0], [-4], [-8], [40]])


class AsItWas(unittest.TestCase):
    """A refusal, and each of the calls 6 to 11, leaves all as it was."""

    CALLS = [call for call, answered in TWELVE]
    ANSWERS = [answered for call, answered in TWELVE]

    def assert_nothing_changed(self, call, place):
        """The call put in at that place answers, and all others answer as without it."""
        given = ask(*self.CALLS[:place], call, *self.CALLS[place:])
        self.assertEqual(given[:place] + given[place + 1:], self.ANSWERS, (call, place))
        return given[place]

    def test_behind_each_of_the_calls_6_to_11(self):
        answered = 0
        for place in range(len(self.CALLS) + 1):
            for call in (case(3, 0), allowed(3, 0), finish(5, 0), finish(6, 0), over(0), LOST_CASES, MOMENT,
                         case(7, 0), allowed(7, 0)):
                answered += self.assert_nothing_changed(call, place)[0] >= 0
        self.assertGreater(answered, 100)

    def test_behind_a_refusal(self):
        refused = [process([]), process([0, 6]), process([2] * 5 + [0, 0] * 6), rule(), rule(2, 5), price(2, 0, 7),
                   price(0, 0, 101), price(0, 6, 7), do(0, 5), do(1, 0), do(3, 1), move(1), move(4294967295),
                   case(10, 0), case(3, 1), allowed(10, 0), allowed(0, 0), finish(10, 1), finish(9, 2), over(1)]
        for place in range(len(self.CALLS) + 1):
            for call in refused:
                self.assertLess(self.assert_nothing_changed(call, place)[0], 0)

    def test_behind_how_many_there_are_and_no_way_over(self):
        before = [process(ANY_0), OPEN, do(0, 0), OPEN, OPEN, rule(1, 1, 0), rule(1, 0, 3), process(step(1)),
                  process(step(1))]
        refused = [move(0), OPEN, rule(2, 1), process(ANY_0), finish(8, 3), over(0), do(0, 1)]
        self.assertEqual(ask(*before, *refused)[9:], [[-6], [-7], [-7], [-7], [-2], [-6], [-5]])
        asked = [case(9, 0), case(9, 2), allowed(9, 0), finish(9, 0), LOST_CASES, MOMENT]
        self.assertEqual(ask(*before, *asked)[9:], [[1, 1, 0, 0, 1, 0], [1, 0, 0, 0], [1, 0], [0], [0], [9]])
        for call in refused:
            self.assertEqual(ask(*before, call, *asked)[10:], ask(*before, *asked)[9:], call)

    def test_behind_five_were_done_it_goes_by_the_newest_and_forty(self):
        before = [process(ANY_0), OPEN, do(0, 0, 0, 0, 0, 0)]
        asked = [case(7, 0), allowed(7, 0), finish(7, 0), over(0), LOST_CASES, MOMENT]
        for call, number in ((do(0, 0), -7), (move(0), -3)):
            given = ask(*before, call, *asked)
            self.assertEqual(given[7], [number])
            self.assertEqual(given[8:], ask(*before, *asked)[7:])
        full = [*before, *[CHEAP] * 33]
        for call in (process(step(1)), rule(2, 1), price(0, 0, 9), OPEN, do(0, 0), move(0)):
            given = ask(*full, call, *asked)
            self.assertEqual(given[40], [-8])
            self.assertEqual(given[41:], ask(*full, *asked)[40:])


if __name__ == "__main__":
    unittest.main()
