"""Call 11: how much has been done."""

import unittest

from tests.helper import (
    LOST_CASES, MOMENT, NOTHING, OPEN, allowed, ask, case, do, finish, last, move, over, price, process, rounds, rule,
    step)

ANY_0 = rounds(step(0), NOTHING)


class Moment(unittest.TestCase):
    def after_each(self, *calls):
        """What moment answers at the beginning, and behind each of the calls."""
        asked = [MOMENT]
        for call in calls:
            asked += [call, MOMENT]
        return [answered[0] for answered in ask(*asked)[::2]]

    def test_at_the_beginning(self):
        self.assertEqual(ask(MOMENT), [[0]])
        self.assertEqual(ask(MOMENT, MOMENT, MOMENT), [[0]] * 3)

    def test_each_of_the_calls_0_to_5_is_one(self):
        calls = [process(ANY_0), OPEN, do(0, 0), rule(2, 0), price(1, 5, 100), process(step(0)), move(0)]
        self.assertEqual(self.after_each(*calls), list(range(8)))

    def test_also_where_nothing_becomes_another(self):
        self.assertEqual(self.after_each(price(0, 0, 1), price(0, 0, 1), process(NOTHING)), [0, 1, 2, 3])

    def test_refusals_are_none(self):
        self.assertEqual(self.after_each(process([]), rule(9), price(2, 0, 1), do(0, 0), move(0)), [0] * 6)
        calls = [OPEN, do(0, 0), move(0), do(1, 0), move(1)]
        self.assertEqual(self.after_each(*calls), [0, 1, 1, 1, 1, 1])
        self.assertEqual(self.after_each(OPEN, OPEN, OPEN, OPEN), [0, 1, 2, 3, 3])
        self.assertEqual(self.after_each(rule(2, 0), rule(2, 0), rule(2, 0)), [0, 1, 2, 2])
        self.assertEqual(self.after_each(*[process(NOTHING)] * 4), [0, 1, 2, 3, 3])
        self.assertEqual(self.after_each(OPEN, rule(2, 0), process(NOTHING), move(0)), [0, 1, 2, 3, 3])
        calls = [process(ANY_0), OPEN] + [do(0, 0)] * 6
        self.assertEqual(self.after_each(*calls), [0, 1, 2, 3, 4, 5, 6, 7, 7])

    def test_the_calls_6_to_11_are_none(self):
        asked = [case(1, 0), allowed(1, 0), finish(1, 0), over(0), LOST_CASES, MOMENT]
        self.assertEqual(ask(OPEN, *asked)[1:], [[0, 0, 0, 0], [1], [0], [0], [0], [1]])
        self.assertEqual(self.after_each(OPEN, *asked, OPEN), [0] + [1] * 7 + [2])

    def test_the_calls_6_to_11_refused_are_none(self):
        asked = [case(2, 0), case(1, 1), allowed(2, 0), finish(1, 1), over(1)]
        self.assertEqual(ask(OPEN, *asked)[1:], [[-4], [-2], [-4], [-2], [-2]])
        self.assertEqual(self.after_each(OPEN, *asked, OPEN), [0] + [1] * 6 + [2])

    def test_up_to_forty(self):
        cheap = price(0, 0, 1)
        self.assertEqual(last(*[cheap] * 39, MOMENT), [39])
        self.assertEqual(last(*[cheap] * 40, MOMENT), [40])
        self.assertEqual(last(*[cheap] * 42, OPEN, process(NOTHING), MOMENT), [40])


if __name__ == "__main__":
    unittest.main()
