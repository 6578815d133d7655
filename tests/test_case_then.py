"""Call 6: a case as it was at a moment."""

import unittest

from tests.helper import OPEN, ask, case, do, in_row, last, move, price, process, rule, step

# Step by step: what is done, and how case 0 is behind it.
STORY = (
    (process(in_row(1, 2)), None),
    (OPEN, [1, 0, 0, 0]),
    (do(0, 1), [1, 1, 1, 0, 1, 1]),
    (price(0, 1, 9), [1, 1, 1, 0, 1, 1]),
    (process(in_row(0, 3, 1, 2)), [1, 1, 1, 0, 1, 1]),
    (move(0), [2, 3, 0, 3, 1, 2, 0, 3, 1, 1]),
    (do(0, 0), [2, 3, 0, 3, 1, 1, 3, 2, 1, 0]),
    (do(0, 3), [2, 3, 0, 3, 1, 0, 3, 1, 0, 3]),
    (do(0, 2), [2, 4, 0, 3, 1, 2, 0, 4, 1, 0, 3, 2]),
)
ALL = [call for call, behind in STORY]


class CaseThen(unittest.TestCase):
    def test_now(self):
        for time, (call, behind) in enumerate(STORY, start=1):
            self.assertEqual(last(*ALL[:time], case(time, 0)), behind or [-2], time)

    def test_a_moment_is_told_later_as_it_was(self):
        for time, (call, behind) in enumerate(STORY, start=1):
            for now in range(time, len(ALL) + 1):
                self.assertEqual(last(*ALL[:now], case(time, 0)), behind or [-2], (time, now))

    def test_at_moment_0_there_was_none(self):
        self.assertEqual(last(case(0, 0)), [-2])
        self.assertEqual(last(OPEN, case(0, 0)), [-2])
        self.assertEqual(last(*ALL, case(0, 0)), [-2])

    def test_beyond_now(self):
        for now in range(len(ALL) + 1):
            self.assertEqual(last(*ALL[:now], case(now + 1, 0)), [-4])
            self.assertEqual(last(*ALL[:now], case(4294967295, 0)), [-4])

    def test_a_case_that_was_opened_later(self):
        before = [OPEN, process(step(0)), OPEN, OPEN]
        self.assertEqual([last(*before, case(time, 0)) for time in range(5)], [[-2]] + [[0, 0, 0, 0]] * 4)
        self.assertEqual([last(*before, case(time, 1)) for time in range(5)], [[-2]] * 3 + [[1, 0, 0, 0]] * 2)
        self.assertEqual([last(*before, case(time, 2)) for time in range(5)], [[-2]] * 4 + [[1, 0, 0, 0]])
        for which in (3, 4, 4294967295):
            self.assertEqual(last(*before, case(4, which)), [-2])

    def test_each_case_by_itself(self):
        before = [process(in_row(0, 1)), OPEN, OPEN, do(1, 0), do(0, 0), do(1, 1)]
        self.assertEqual(last(*before, case(6, 0)), [1, 1, 0, 0, 1, 0])
        self.assertEqual(last(*before, case(6, 1)), [1, 2, 0, 1, 0, 2, 0, 1])
        self.assertEqual(last(*before, case(4, 0)), [1, 0, 0, 0])
        self.assertEqual(last(*before, case(4, 1)), [1, 1, 0, 0, 1, 0])

    def test_refusals_make_no_moment(self):
        before = [process(in_row(0, 1)), OPEN, do(0, 1), do(0, 0), do(0, 0), rule(9), do(0, 1)]
        self.assertEqual(ask(*before)[2:], [[-5], [1, 1, 0], [-5], [-1], [2, 1, 1]])
        self.assertEqual(last(*before, case(3, 0)), [1, 1, 0, 0, 1, 0])
        self.assertEqual(last(*before, case(4, 0)), [1, 2, 0, 1, 0, 2, 0, 1])
        self.assertEqual(last(*before, case(5, 0)), [-4])

    def test_before_and_behind_a_move_with_nothing_owed(self):
        before = [process(in_row(0, 1, 2)), OPEN, do(0, 0, 1), process(in_row(1, 2)), move(0), do(0, 2)]
        self.assertEqual(ask(*before)[-2:], [[1], [3, 1, 1]])
        self.assertEqual(last(*before, case(5, 0)), [1, 2, 0, 1, 0, 2, 0, 1])
        self.assertEqual(last(*before, case(6, 0)), [2, 1, 1, 0, 2, 0, 1])
        self.assertEqual(last(*before, case(7, 0)), [2, 2, 1, 2, 0, 3, 0, 1, 2])

    def test_before_and_behind_two_moves(self):
        before = [process(step(1)), OPEN, do(0, 1), price(0, 1, 9), process(in_row(0, 1)), move(0),
                  process(in_row(1, 2)), move(0)]
        self.assertEqual(last(*before, case(5, 0)), [1, 1, 1, 0, 1, 1])
        self.assertEqual(last(*before, case(6, 0)), [2, 2, 0, 1, 1, 0, 1, 1])
        self.assertEqual(last(*before, case(7, 0)), [2, 2, 0, 1, 1, 0, 1, 1])
        self.assertEqual(last(*before, case(8, 0)), [3, 1, 1, 0, 1, 1])

    def test_a_move_that_was_refused(self):
        before = [process(in_row(0, 1)), OPEN, do(0, 0), rule(1, 2, 0), process(step(2)), move(0)]
        self.assertEqual(ask(*before, case(5, 0), case(6, 0))[-3:], [[-6], [1, 1, 0, 0, 1, 0], [-4]])

    def test_by_the_process_that_was_the_newest_when_it_was_opened(self):
        before = [process(step(0)), process(step(1)), OPEN, process(step(2))]
        self.assertEqual(last(*before, case(3, 0)), [2, 0, 0, 0])
        self.assertEqual(last(*before, case(4, 0)), [2, 0, 0, 0])

    def test_beyond_now_is_told_ahead_of_no_such_case(self):
        self.assertEqual(last(case(1, 0)), [-4])
        self.assertEqual(last(OPEN, case(2, 1)), [-4])
        self.assertEqual(last(OPEN, case(1, 1)), [-2])


if __name__ == "__main__":
    unittest.main()
