"""Promise 19: suites; promises 2 and 3 over them."""

import copy
import unittest

from everyrow.errors import TooMany
from everyrow.meet import meet
from everyrow.ranges import least_ranges, ranges_show
from everyrow.suites import suite
from everyrow.targets import shortest, targets
from helper import are_all_unlike, asking_first, counted, made_programs, program_of, targets_met

ZERO = ("number", 0)
ONE = ("number", 1)


class TestSuite(unittest.TestCase):
    def right(self, program):
        """Whether what is told is a suite, by runs that are gone through a second way."""
        inputs, never = suite(program)
        self.assertEqual([type(inputs), type(never)], [list, list])
        for figures in inputs:
            self.assertIs(type(figures), list)
            self.assertTrue(all(type(figure) is int and 0 <= figure <= 9 for figure in figures))
        self.assertEqual(len({tuple(figures) for figures in inputs}), len(inputs))
        met = [targets_met(program, figures) for figures in inputs]
        every = set().union(*met)
        self.assertEqual(never, [target for target in targets(program) if target not in every])
        self.assertEqual(never, [target for target in targets(program) if meet(program, target)[0] == "never"])
        for place in range(len(inputs)):
            others = set().union(*met[:place], *met[place + 1:])
            self.assertTrue(met[place] - others, (program, inputs, place))
        return inputs, never

    def test_no_statements(self):
        self.assertEqual(suite(([], [])), ([[]], []))
        self.assertEqual(suite(([("a", 3, 1)], [])), ([[]], []))

    def test_no_asks(self):
        self.assertEqual(suite(program_of("say 1", "say 2")), ([[]], []))
        self.assertEqual(suite(program_of("stop", "say 2")), ([[]], [("row", 2)]))
        self.assertEqual(suite(program_of("must 0 = 1", "say 2")), ([[]], [("row", 2), ("end",)]))
        self.assertEqual(suite(program_of("while 0 < 1", "end")), ([[]], [("side", 1, False), ("end",)]))

    def test_one_input_that_meets_all(self):
        inputs, never = self.right(program_of("box a 4 0", "ask a", "ask a", "say a"))
        self.assertEqual((len(inputs), never), (1, []))
        self.assertEqual(len(inputs[0]), 2)

    def test_each_side_by_an_input_of_its_own(self):
        inputs, never = self.right(program_of("box a 4 0", "ask a", "if a < 2", "say 1", "else", "say 2", "end"))
        self.assertEqual((len(inputs), never), (2, []))
        self.assertEqual(sorted(figures[0] % 4 < 2 for figures in inputs), [False, True])

    def test_a_must_and_the_end_part_the_inputs(self):
        inputs, never = self.right(program_of("box a 10 0", "ask a", "must a < 9", "if a = 8", "must a < 8", "end"))
        self.assertEqual((sorted(inputs), never), ([[0], [8], [9]], []))

    def test_targets_never_met_in_their_order(self):
        program = program_of("box a 4 0", "ask a", "must a < 4", "if a*a = 5", "say 1", "else", "say 2", "end",
                             "while a = a", "put a a", "end", "say 3")
        inputs, never = self.right(program)
        self.assertEqual(never, [("must", 3), ("side", 4, True), ("row", 5), ("side", 9, False), ("row", 12), ("end",)])
        self.assertEqual(len(inputs), 1)

    def test_never_by_ranges_and_by_standings(self):
        program = program_of("box a 2 0", "ask a", "must a < 2", "must a*a = a")
        self.assertEqual(self.right(program)[1], [("must", 3), ("must", 4)])
        self.assertIs(ranges_show(program, ("must", 3), least_ranges(program)), True)
        self.assertIs(ranges_show(program, ("must", 4), least_ranges(program)), False)

    def test_an_input_that_a_later_one_spares(self):
        rows = ["box a 10 0", "while a < 9", "ask a", "if a = 3", "say 1", "end", "if a = 4", "say 2", "end", "end"]
        inputs, never = self.right(program_of(*rows))
        self.assertEqual(never, [])
        self.assertNotIn([], inputs)

    def test_inputs_that_are_spared_by_one_another_are_not_all_spared(self):
        # By 0, 1 and 2 each of the first three conditions holds twice, by 3 never, so that each of them could go alone.
        program = program_of("box a 10 0", "ask a", "if a < 2", "end", "if 3*a-a*a = 2", "end", "if 2*a-a*a = 0", "end",
                             "if a = 2", "end", "if a = 3", "end")
        inputs, never = self.right(program)
        self.assertEqual(never, [])

    def test_rows_with_gaps_and_bodies_without_statements(self):
        body = [("if", 5, "<", ("box", "a"), ONE, [], []), ("ask", 70, "a"),
                ("while", 800, "=", ("box", "a"), ONE, []), ("if", 900, "=", ZERO, ONE, [], [("say", 999, ONE)])]
        inputs, never = self.right(([("a", 2, 0)], body))
        self.assertEqual(never, [("side", 5, False), ("side", 900, True)])
        self.assertEqual(len(inputs), 2)

    def test_just_as_many_standings_as_may_be_and_one_more(self):
        self.right(counted(19))
        with self.assertRaises(TooMany):
            suite(counted(20))

    def test_too_many_also_where_ranges_tell_all_that_is_never_met(self):
        rows = ["box a 10 0", "box b 10 0", "box c 10 0", "box d 10 0", "ask a", "ask b", "ask c", "ask d", "must a < 10"]
        with self.assertRaises(TooMany):
            suite(program_of(*rows))

    def test_many_programs_once_more(self):
        several = lacking = 0
        programs = made_programs(300, 21, most_statements=4)
        for program in programs + [asking_first(program) for program in programs]:
            inputs, never = self.right(program)
            several += len(inputs) > 1
            lacking += len(never) > 0
            for target in targets(program):
                self.assertEqual(target in never, shortest(program, target) is None)
        self.assertGreater(several, 50)
        self.assertGreater(lacking, 100)

    def test_told_lists_are_the_askers_own(self):
        for program in made_programs(40, 22):
            before = copy.deepcopy(program)
            told, again = suite(program), suite(program)
            self.assertEqual([type(told), len(told), told], [tuple, 2, again])
            self.assertTrue(are_all_unlike(told, again, program))
            for figures in told[0]:
                figures.append(5)
            told[0].clear()
            told[1].append(("row", 1000))
            self.assertEqual(suite(program), again)
            self.assertEqual(program, before)

    def test_a_program_that_is_changed_behind_is_asked_anew(self):
        program = program_of("box a 4 0", "ask a")
        self.assertEqual(suite(program)[1], [])
        program[1].append(("must", 3, "=", ZERO, ONE))
        self.assertEqual(suite(program)[1], [("end",)])


if __name__ == "__main__":
    unittest.main()
