"""Call 1: the nine kinds of rule, kept and broken."""

import unittest

from tests.helper import NOTHING, OPEN, ask, beside, do, either, in_row, last, move, process, rounds, row, rule, step

# All rows of the steps 0 to 2, put together in any order.
ANY = rounds(either(step(0), either(step(1), step(2))), NOTHING)


class Kinds(unittest.TestCase):
    def told_of(self, told, steps):
        """Whether the rule is kept by a case of just these steps: asked both when it's done and when it's told."""
        made = process(in_row(*steps)) if steps else process(NOTHING)
        too_late = last(made, OPEN, do(0, *steps), rule(*told))
        self.assertEqual(too_late[0], 0)
        if steps:
            done = last(made, OPEN, rule(*told), do(0, *steps))
            self.assertEqual(done[0], len(steps))
            self.assertEqual(done[1:], [1 - too_late[1]] * 2)
            self.assertEqual(last(made, OPEN, rule(*told)), [0, too_late[1]], "by the whole case ahead of it")
        return too_late[1] == 0

    def assert_rule(self, told, kept, broken):
        for steps in kept:
            self.assertTrue(self.told_of(told, steps), (told, steps))
        for steps in broken:
            self.assertFalse(self.told_of(told, steps), (told, steps))

    def test_at_least(self):
        self.assert_rule((0, 1, 0), [(), (0,), (1,)], [])
        self.assert_rule((0, 1, 1), [(1,), (0, 1), (1, 1)], [(), (0,), (0, 2, 3)])
        self.assert_rule((0, 1, 2), [(1, 1), (1, 0, 1), (1, 1, 1)], [(), (1,), (1, 0, 0)])
        self.assert_rule((0, 0, 3), [(0, 0, 0), (0, 0, 0, 0), (0, 1, 0, 1, 0)], [(), (0, 0), (0, 1, 0, 1)])

    def test_at_most(self):
        self.assert_rule((1, 1, 0), [(), (0,), (0, 2)], [(1,), (0, 1), (1, 1)])
        self.assert_rule((1, 1, 1), [(), (1,), (0, 1, 2)], [(1, 1), (1, 0, 1)])
        self.assert_rule((1, 4, 3), [(), (4, 4, 4), (4, 0, 4, 4)], [(4, 4, 4, 4), (4, 4, 4, 4, 4)])

    def test_first(self):
        self.assert_rule((2, 1), [(1,), (1, 0), (1, 0, 1)], [(), (0,), (0, 1)])

    def test_last(self):
        self.assert_rule((3, 1), [(1,), (0, 1), (1, 0, 1)], [(), (0,), (1, 0)])

    def test_later(self):
        self.assert_rule(
            (4, 0, 1),
            [(), (1,), (2,), (0, 1), (0, 2, 1), (0, 0, 1), (0, 1, 0, 1), (0, 1, 1, 2)],
            [(0,), (1, 0), (0, 1, 0), (0, 2), (0, 1, 2, 0, 2)])

    def test_ahead(self):
        self.assert_rule(
            (5, 0, 1),
            [(), (0,), (2,), (0, 1), (0, 2, 1), (0, 1, 1), (2, 0, 1)],
            [(1,), (1, 0), (2, 1), (1, 0, 1)])

    def test_right_behind(self):
        self.assert_rule(
            (6, 0, 1),
            [(), (1,), (2, 1), (0, 1), (0, 1, 0, 1), (0, 1, 1), (1, 2, 0, 1)],
            [(0,), (0, 0), (0, 0, 1), (0, 2, 1), (0, 1, 0), (0, 1, 0, 2), (0, 2, 0, 1)])

    def test_not_both(self):
        self.assert_rule((7, 0, 1), [(), (0,), (1,), (0, 0, 2), (1, 2, 1)], [(0, 1), (1, 0), (0, 2, 1), (1, 1, 0)])

    def test_between(self):
        self.assert_rule(
            (8, 0, 1),
            [(), (0,), (1,), (0, 1, 0), (0, 1), (0, 2, 1, 1, 0), (1, 0, 2), (0, 1, 0, 1, 0)],
            [(0, 0), (0, 2, 0), (1, 0, 0), (0, 1, 0, 0), (0, 0, 1), (0, 0, 1, 0)])

    def test_the_steps_are_not_mixed_up(self):
        self.assert_rule((4, 4, 2), [(4, 2), (2,)], [(4,), (2, 4)])
        self.assert_rule((5, 4, 2), [(4, 2), (4,)], [(2,), (2, 4)])
        self.assert_rule((6, 4, 2), [(4, 2), (2,)], [(4,), (4, 0, 2)])
        self.assert_rule((8, 4, 2), [(4, 2, 4), (2, 2)], [(4, 4)])


class Forms(unittest.TestCase):
    def assert_refused(self, *told):
        self.assertEqual(ask(rule(*told), rule(0, 0, 0)), [[-1], [0, 0]], told)

    def test_none_too_few_and_too_many_numbers(self):
        self.assert_refused()
        for kind in range(9):
            self.assert_refused(kind)
            self.assert_refused(kind, 0, 1, 2)
            self.assert_refused(*([kind, 0, 1] + [2] * 37))
        for kind in (2, 3):
            self.assert_refused(kind, 0, 0)
            self.assert_refused(kind, 0, 1)
        for kind in (0, 1, 4, 5, 6, 7, 8):
            self.assert_refused(kind, 0)

    def test_no_such_kind(self):
        for kind in (9, 10, 4294967295):
            self.assert_refused(kind)
            self.assert_refused(kind, 0)
            self.assert_refused(kind, 0, 1)

    def test_steps_from_0_to_4(self):
        for number in (5, 6, 4294967295):
            for kind in (2, 3):
                self.assert_refused(kind, number)
            for kind in (0, 1, 4, 5, 6, 7, 8):
                self.assert_refused(kind, number, 0)
            for kind in (4, 5, 6, 7, 8):
                self.assert_refused(kind, 0, number)
        for number in (0, 4):
            for kind in (2, 3):
                self.assertEqual(last(rule(kind, number)), [0, 0])
            for kind in (4, 5, 6, 7, 8):
                self.assertEqual(last(rule(kind, number, 4 - number)), [0, 0])
            for kind in (0, 1):
                self.assertEqual(last(rule(kind, number, 3)), [0, 0])

    def test_two_different_steps(self):
        for number in range(5):
            for kind in (4, 5, 6, 7, 8):
                self.assert_refused(kind, number, number)
            for kind in (0, 1):
                if number <= 3:
                    self.assertEqual(last(rule(kind, number, number)), [0, 0])

    def test_n_from_0_to_3(self):
        for kind in (0, 1):
            for n in range(4):
                self.assertEqual(last(rule(kind, 0, n)), [0, 0])
            for n in (4, 5, 4294967295):
                self.assert_refused(kind, 0, n)


class Answers(unittest.TestCase):
    def test_they_are_numbered_from_0_and_there_are_two(self):
        self.assertEqual(ask(rule(2, 0), rule(9), rule(3, 0), rule(3, 0), rule(9)), [[0, 0], [-1], [1, 0], [-7], [-1]])

    def test_too_late_for_some_cases(self):
        given = ask(process(ANY), OPEN, OPEN, OPEN, do(0, 1), do(1, 0), do(2, 0, 1), rule(2, 0), rule(1, 1, 0))
        self.assertEqual(given[-2:], [[0, 1], [1, 2]])

    def test_cases_are_counted_by_all_rules(self):
        given = ask(process(ANY), OPEN, OPEN, do(0, 0), rule(1, 0, 0), rule(0, 1, 1))
        self.assertEqual(given[-2:], [[0, 1], [1, 1]])

    def test_each_can_be_kept_but_not_both(self):
        self.assertEqual(ask(process(ANY), OPEN, rule(2, 0), rule(1, 0, 0))[-2:], [[0, 0], [1, 1]])
        self.assertEqual(ask(process(ANY), OPEN, rule(3, 0), rule(4, 0, 1))[-2:], [[0, 0], [1, 1]])

    def test_a_long_way_on(self):
        told = rounds(in_row(0, 1, 2), step(3))
        self.assertEqual(ask(process(told), OPEN, rule(0, 3, 3), rule(0, 0, 3))[-2:], [[0, 0], [1, 0]])
        self.assertEqual(ask(process(told), OPEN, rule(0, 3, 3), rule(1, 0, 3))[-2:], [[0, 0], [1, 1]])

    def test_each_case_by_its_own_process(self):
        given = ask(process(step(0)), OPEN, process(step(1)), OPEN, rule(0, 0, 1), rule(0, 1, 1))
        self.assertEqual(given[-2:], [[0, 1], [1, 2]])

    def test_also_cases_that_are_through(self):
        given = ask(process(step(0)), OPEN, do(0, 0), rule(1, 0, 0))
        self.assertEqual(given[-2:], [[1, 1, 1], [0, 1]])

    def test_an_empty_row(self):
        self.assertEqual(ask(OPEN, rule(2, 0)), [[0], [0, 1]])
        self.assertEqual(ask(OPEN, rule(4, 0, 1)), [[0], [0, 0]])

    def test_what_is_owed_is_behind_what_was_done(self):
        # Done is 1, owed is 0: so 1 is ahead of 0, though it stands at 0, 1.
        before = [process(step(1)), OPEN, do(0, 1), [2, 0, 1, 100], process(in_row(0, 1)), move(0)]
        self.assertEqual(ask(*before, rule(2, 1))[-2:], [[1, 0], [0, 0]])
        self.assertEqual(ask(*before, rule(2, 0))[-2:], [[1, 0], [0, 1]])
        self.assertEqual(ask(*before, rule(3, 0))[-2:], [[1, 0], [0, 0]])
        self.assertEqual(ask(*before, rule(6, 1, 0))[-2:], [[1, 0], [0, 0]])
        self.assertEqual(ask(*before, rule(5, 0, 1))[-2:], [[1, 0], [0, 1]])

    def test_side_by_side_gives_room(self):
        self.assertEqual(ask(process(row(step(0), step(1))), OPEN, rule(5, 1, 0))[-1], [0, 1])
        self.assertEqual(ask(process(beside(step(0), step(1))), OPEN, rule(5, 1, 0))[-1], [0, 0])


if __name__ == "__main__":
    unittest.main()
