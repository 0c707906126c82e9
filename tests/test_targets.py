"""Promises 11 and 12: targets, standings and the shortest inputs; promises 2 and 3 over them."""

import copy
import unittest

from everyrow.errors import TooMany
from everyrow.targets import meets, shortest, standings, targets
from helper import are_all_unlike, counted, inputs_to, made_programs, program_of, targets_met, walked_once

ZERO = ("number", 0)
ONE = ("number", 1)


def standings_again(program, length):
    """The standings that inputs of at most so many figures lead to, by trying all of these in their order."""
    found = {}
    for figures in inputs_to(length):
        for standing, taken, note in walked_once(program, figures):
            found.setdefault(standing, figures)
    return found


class TestTargets(unittest.TestCase):
    def test_no_statements(self):
        self.assertEqual(targets(([], [])), [("end",)])
        self.assertEqual(targets(program_of("box a 2 0")), [("end",)])

    def test_each_kind_of_statement_in_its_order(self):
        program = program_of("box a 4 0", "ask a", "put a 1", "say a", "must a < 3", "if a = 1", "stop", "else",
                             "while a < 2", "ask a", "end", "end", "must 1 = a")
        self.assertEqual(targets(program), [
            ("row", 2), ("row", 3), ("row", 4), ("row", 5), ("must", 5),
            ("row", 6), ("side", 6, True), ("side", 6, False), ("row", 7),
            ("row", 9), ("side", 9, True), ("side", 9, False), ("row", 10),
            ("row", 13), ("must", 13), ("end",)])

    def test_rows_with_gaps_and_bodies_without_statements(self):
        body = [("while", 5, "<", ZERO, ONE, []), ("if", 70, "=", ZERO, ONE, [], [("must", 800, "=", ZERO, ONE)])]
        self.assertEqual(targets(([], body)), [
            ("row", 5), ("side", 5, True), ("side", 5, False), ("row", 70), ("side", 70, True), ("side", 70, False),
            ("row", 800), ("must", 800), ("end",)])

    def test_truths_are_truths(self):
        told = targets(program_of("if 0 < 1", "end", "while 0 < 1", "end"))
        self.assertEqual([type(target) for target in told], [tuple] * 7)
        self.assertEqual([type(target[2]) for target in told if target[0] == "side"], [bool] * 4)

    def test_told_lists_are_the_askers_own(self):
        program = program_of("if 0 < 1", "end")
        before = copy.deepcopy(program)
        told, again = targets(program), targets(program)
        self.assertTrue(are_all_unlike(told, again, program))
        told.clear()
        self.assertEqual(targets(program), again)
        self.assertEqual(program, before)


class TestMeets(unittest.TestCase):
    def met(self, rows, figures, met):
        program = program_of(*rows)
        for target in targets(program):
            self.assertIs(meets(program, figures, target), target in met, target)

    def test_no_statements(self):
        self.assertIs(meets(([], []), [], ("end",)), True)
        self.assertIs(meets(([("a", 3, 1)], []), [4, 5], ("end",)), True)

    def test_rows_begun_and_not(self):
        rows = ["box a 4 0", "ask a", "say a", "ask a", "say a"]
        self.met(rows, [], [("row", 2)])
        self.met(rows, [1], [("row", 2), ("row", 3), ("row", 4)])
        self.met(rows, [1, 1], [("row", 2), ("row", 3), ("row", 4), ("row", 5), ("end",)])
        self.met(rows, [1, 1, 1, 1], [("row", 2), ("row", 3), ("row", 4), ("row", 5), ("end",)])
        self.met(["stop", "say 1"], [], [("row", 1), ("end",)])

    def test_a_failing_must_is_begun_and_met_and_ends_the_run(self):
        rows = ["box a 4 0", "ask a", "must a < 2", "say a"]
        self.met(rows, [1], [("row", 2), ("row", 3), ("row", 4), ("end",)])
        self.met(rows, [2], [("row", 2), ("row", 3), ("must", 3)])
        self.met(rows, [], [("row", 2)])

    def test_a_must_that_fails_at_the_second_time(self):
        rows = ["box a 4 0", "while 0 < 1", "ask a", "must a < 2", "end"]
        self.met(rows, [1, 3], [("row", 2), ("side", 2, True), ("row", 3), ("row", 4), ("must", 4)])
        self.met(rows, [1, 0, 1], [("row", 2), ("side", 2, True), ("row", 3), ("row", 4)])

    def test_sides(self):
        rows = ["box a 4 0", "ask a", "if a = 2", "say 1", "else", "say 2", "end"]
        self.met(rows, [2], [("row", 2), ("row", 3), ("side", 3, True), ("row", 4), ("end",)])
        self.met(rows, [1], [("row", 2), ("row", 3), ("side", 3, False), ("row", 6), ("end",)])
        rows = ["box a 4 0", "while a < 2", "ask a", "end"]
        self.met(rows, [], [("row", 2), ("side", 2, True), ("row", 3)])
        self.met(rows, [3], [("row", 2), ("side", 2, True), ("side", 2, False), ("row", 3), ("end",)])

    def test_a_run_that_goes_round_for_ever(self):
        self.met(["while 0 < 1", "end", "say 1"], [1, 2], [("row", 1), ("side", 1, True)])
        self.met(["while 0 < 1", "say 1", "end"], [], [("row", 1), ("side", 1, True), ("row", 2)])
        rows = ["box a 10 0", "box b 10 0", "while 0 < 1", "put a a+1", "if a = 0", "put b b+1", "end",
                "if b = 9", "say 1", "else", "if b = 10", "say 2", "end", "end", "end"]
        self.met(rows, [], [("row", 3), ("side", 3, True), ("row", 4), ("row", 5), ("side", 5, True),
                            ("side", 5, False), ("row", 6), ("row", 8), ("side", 8, True), ("side", 8, False),
                            ("row", 9), ("row", 11), ("side", 11, False)])

    def test_a_run_that_goes_round_for_ever_behind_an_ask(self):
        rows = ["box a 4 0", "ask a", "while a < 3", "put a a*1", "end", "say 1"]
        self.met(rows, [1], [("row", 2), ("row", 3), ("side", 3, True), ("row", 4)])
        self.met(rows, [3], [("row", 2), ("row", 3), ("side", 3, False), ("row", 6), ("end",)])

    def test_a_run_that_is_round_by_figures_goes_on(self):
        rows = ["box a 10 0", "while a < 9", "put a 0", "ask a", "end", "say 1"]
        self.met(rows, [0, 0, 0, 0, 0, 9], [("row", 2), ("side", 2, True), ("row", 3), ("row", 4),
                                            ("side", 2, False), ("row", 6), ("end",)])
        self.met(rows, [0, 0, 0, 0, 0, 0], [("row", 2), ("side", 2, True), ("row", 3), ("row", 4)])

    def test_a_run_of_more_statements_than_a_bound_may_tell(self):
        rows = ["box a 10 1", "box b 10 0", "box c 10 0", "box d 10 0", "while 0 < a+b+c+d", "put a a+1",
                "if a = 0", "put b b+1", "if b = 0", "put c c+1", "if c = 0", "put d d+1", "end", "end", "end",
                "end", "say 1"]
        program = program_of(*rows)
        for target in targets(program):
            self.assertIs(meets(program, [], target), True)

    def test_many_programs_once_more(self):
        for program in made_programs(200, 3):
            for figures in ([], [1], [5, 2], [0, 3, 8], [2, 2, 1, 0, 9, 3]):
                met = targets_met(program, figures)
                for target in targets(program):
                    self.assertIs(meets(program, figures, target), target in met, (program, figures, target))

    def test_what_is_handed_in_stays_as_it_was(self):
        program, figures = program_of("box a 4 0", "while a < 2", "ask a", "end"), [1, 2, 3]
        before = copy.deepcopy(program)
        for target in targets(program):
            self.assertEqual(meets(program, figures, target), meets(program, figures, target))
        self.assertEqual((program, figures), (before, [1, 2, 3]))


class TestStandings(unittest.TestCase):
    def test_no_statements(self):
        self.assertEqual(standings(([], [])), [(0, ())])
        self.assertEqual(standings(([("a", 3, 2)], [])), [(0, (2,))])

    def test_as_they_are_come_to(self):
        self.assertEqual(standings(program_of("box a 3 0", "put a 2", "say a", "put a 1", "stop")),
                         [(2, (0,)), (3, (2,)), (4, (2,)), (5, (1,)), (0, (1,))])

    def test_by_how_few_figures_and_by_the_figures(self):
        self.assertEqual(standings(program_of("box a 3 1", "ask a", "say a")), [
            (2, (1,)), (3, (0,)), (0, (0,)), (3, (1,)), (0, (1,)), (3, (2,)), (0, (2,))])
        self.assertEqual(standings(program_of("box a 2 0", "box b 2 1", "ask a", "ask b")), [
            (3, (0, 1)), (4, (0, 1)), (4, (1, 1)), (0, (0, 0)), (0, (0, 1)), (0, (1, 0)), (0, (1, 1))])

    def test_fewer_figures_are_ahead_of_smaller_ones(self):
        program = program_of("box a 3 0", "ask a", "if a = 0", "ask a", "put a 0", "else", "say a", "end")
        self.assertEqual(standings(program), [
            (2, (0,)), (3, (0,)), (4, (0,)), (3, (1,)), (7, (1,)), (0, (1,)), (3, (2,)), (7, (2,)), (0, (2,)),
            (5, (0,)), (0, (0,)), (5, (1,)), (5, (2,))])

    def test_those_at_a_failing_must_are_told(self):
        self.assertEqual(standings(program_of("box a 2 0", "ask a", "must a = 1", "say a")), [
            (2, (0,)), (3, (0,)), (3, (1,)), (4, (1,)), (0, (1,))])
        self.assertEqual(standings(program_of("must 0 = 1", "say 1")), [(1, ())])

    def test_each_once_in_loops(self):
        self.assertEqual(standings(program_of("while 0 < 1", "end")), [(1, ())])
        self.assertEqual(standings(program_of("box a 2 0", "while 0 < 1", "ask a", "end")), [
            (2, (0,)), (3, (0,)), (2, (1,)), (3, (1,))])
        self.assertEqual(standings(program_of("box a 3 0", "while 0 < 1", "put a a+1", "end")), [
            (2, (0,)), (3, (0,)), (2, (1,)), (3, (1,)), (2, (2,)), (3, (2,))])

    def test_rows_with_gaps(self):
        body = [("ask", 5, "a"), ("say", 999, ONE)]
        self.assertEqual(standings(([("a", 2, 0)], body)), [
            (5, (0,)), (999, (0,)), (0, (0,)), (999, (1,)), (0, (1,))])

    def test_a_greater_box_than_there_are_figures(self):
        self.assertEqual(standings(([("a", 12, 11)], [("ask", 1, "a")])),
                         [(1, (11,))] + [(0, (figure,)) for figure in range(10)])

    def test_just_as_many_as_may_be_and_one_more(self):
        self.assertEqual(len(standings(counted(18))), 1999)
        self.assertEqual(len(standings(counted(19))), 2000)
        for ahead in (20, 21, 30):
            with self.assertRaises(TooMany):
                standings(counted(ahead))

    def test_just_as_many_by_a_run_that_asks_nothing(self):
        self.assertEqual(len(standings(([], [("say", k, ONE) for k in range(1, 1000)]))), 1000)
        loop = [("while", 1, "<", ZERO, ONE, [("put", 2, "a", ("+", ("box", "a"), ONE))])]
        self.assertEqual(len(standings(([("a", 1000, 0)], loop))), 2000)
        with self.assertRaises(TooMany):
            standings(([("a", 1001, 0)], loop))
        loop[0][5].append(("stop", 3))
        self.assertEqual(standings(([("a", 1001, 0)], loop)), [(1, (0,)), (2, (0,)), (3, (1,)), (0, (1,))])

    def test_a_failing_must_as_the_last_of_many(self):
        body = [("say", k, ONE) for k in range(1, 600)] + [("must", 600, "=", ZERO, ONE)]
        self.assertEqual(standings(([], body)), [(k, ()) for k in range(1, 601)])

    def test_great_programs_are_refused(self):
        with self.assertRaises(TooMany):
            standings(program_of("box a 10 0", "box b 10 0", "box c 10 0", "box d 10 0", "while 0 < 1",
                                 "ask a", "ask b", "ask c", "ask d", "end"))

    def test_many_programs_once_more(self):
        ended = 0
        for program in made_programs(80, 4):
            found = list(standings_again(program, 2))
            told = standings(program)
            self.assertEqual(told[:len(found)], found, program)
            self.assertEqual(len(set(told)), len(told))
            ended += len(told) == len(found)
        self.assertGreater(ended, 40)

    def test_told_lists_are_the_askers_own(self):
        program = program_of("box a 2 0", "ask a", "must a = 1", "say a")
        before = copy.deepcopy(program)
        told, again = standings(program), standings(program)
        self.assertEqual([type(told), type(told[0]), type(told[0][1])], [list, tuple, tuple])
        self.assertTrue(are_all_unlike(told, again, program))
        told.clear()
        self.assertEqual(standings(program), again)
        self.assertEqual(program, before)


class TestShortest(unittest.TestCase):
    def test_no_figures(self):
        self.assertEqual(shortest(([], []), ("end",)), [])
        program = program_of("box a 4 0", "say 1", "must a = 1", "stop")
        self.assertEqual(shortest(program, ("row", 2)), [])
        self.assertEqual(shortest(program, ("row", 3)), [])
        self.assertEqual(shortest(program, ("must", 3)), [])

    def test_the_ask_itself_needs_no_figure(self):
        program = program_of("box a 4 0", "ask a", "ask a")
        self.assertEqual(shortest(program, ("row", 2)), [])
        self.assertEqual(shortest(program, ("row", 3)), [0])
        self.assertEqual(shortest(program, ("end",)), [0, 0])

    def test_one_figure(self):
        program = program_of("box a 10 0", "ask a", "if 3 < a", "say 1", "else", "must a < 3", "end")
        self.assertEqual(shortest(program, ("side", 3, True)), [4])
        self.assertEqual(shortest(program, ("row", 4)), [4])
        self.assertEqual(shortest(program, ("side", 3, False)), [0])
        self.assertEqual(shortest(program, ("must", 6)), [3])
        self.assertEqual(shortest(program, ("end",)), [0])

    def test_more_figures_the_fewest_ahead_of_the_first(self):
        program = program_of("box a 10 0", "ask a", "while a < 7", "ask a", "end", "say a")
        self.assertEqual(shortest(program, ("row", 4)), [0])
        self.assertEqual(shortest(program, ("row", 6)), [7])
        program = program_of("box a 10 0", "box b 10 0", "ask a", "ask b", "if 9 < a*b-40", "if b = 7", "say 1", "end",
                             "end")
        self.assertEqual(shortest(program, ("side", 5, True)), [6, 9])
        self.assertEqual(shortest(program, ("row", 7)), [8, 7])

    def test_none_where_there_is_none(self):
        program = program_of("box a 4 0", "ask a", "if a = 4", "say 1", "end", "must a < 4", "while a = a", "end",
                             "say 2")
        for target in (("side", 3, True), ("row", 4), ("must", 6), ("side", 7, False), ("row", 9), ("end",)):
            self.assertIsNone(shortest(program, target))

    def test_too_many_wherever_the_standings_are_too_many(self):
        few, many = counted(19), counted(20)
        for target in targets(few):
            shortest(few, target)
        for target in targets(many):
            with self.assertRaises(TooMany):
                shortest(many, target)

    def test_many_programs_once_more(self):
        for program in made_programs(80, 5):
            tried = [(figures, targets_met(program, figures)) for figures in inputs_to(2)]
            for target in targets(program):
                first = next((figures for figures, met in tried if target in met), None)
                told = shortest(program, target)
                if first is not None or told is None:
                    self.assertEqual(told, first, (program, target))
                else:
                    self.assertGreater(len(told), 2)
                    self.assertIn(target, targets_met(program, told))

    def test_what_is_told_is_met_and_by_no_fewer(self):
        for program in made_programs(150, 6, most_statements=4):
            for target in targets(program):
                told = shortest(program, target)
                if told is not None:
                    self.assertIs(meets(program, told, target), True)
                    self.assertNotIn(target, targets_met(program, told[:-1]) if told else [])

    def test_told_lists_are_the_askers_own(self):
        program = program_of("box a 10 0", "ask a", "if 3 < a", "say 1", "end")
        before = copy.deepcopy(program)
        for target in targets(program):
            told, again = shortest(program, target), shortest(program, target)
            self.assertIs(type(told), list)
            self.assertTrue(are_all_unlike(told, again, program))
            told.append(5)
            self.assertEqual(shortest(program, target), again)
        self.assertEqual(program, before)


if __name__ == "__main__":
    unittest.main()
