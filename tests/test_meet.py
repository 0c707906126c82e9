"""Promises 17 and 18: standings papers, and what is told of a target; promises 2 and 3 over them."""

import copy
import itertools
import unittest

from everyrow.errors import TooMany
from everyrow.meet import meet, standings_show
from everyrow.ranges import least_ranges, ranges_show
from everyrow.targets import meets, shortest, standings, targets
from helper import are_all_unlike, counted, inputs_to, made_programs, program_of, targets_met

GREAT = ("box a 10 0", "box b 10 0", "box c 10 0", "box d 10 0", "ask a", "ask b", "ask c", "ask d")


class TestStandingsShow(unittest.TestCase):
    PROGRAM = program_of("box a 3 0", "ask a", "must a < 2", "if a+a = 3", "say 1", "end")
    PAPER = [(2, (0,)), (3, (0,)), (4, (0,)), (0, (0,)), (3, (1,)), (4, (1,)), (0, (1,)), (3, (2,))]
    NEVER = [("side", 4, True), ("row", 5)]

    def shown(self, paper, never):
        for target in targets(self.PROGRAM):
            self.assertIs(standings_show(self.PROGRAM, target, paper), target in never, (paper, target))

    def test_all_standings(self):
        self.assertEqual(standings(self.PROGRAM), self.PAPER)
        self.shown(self.PAPER, self.NEVER)

    def test_any_order_and_twice(self):
        self.shown(self.PAPER[::-1], self.NEVER)
        self.shown(sorted(self.PAPER), self.NEVER)
        self.shown(self.PAPER + self.PAPER, self.NEVER)

    def test_papers_that_lack_a_standing(self):
        self.shown([], [])
        for place in range(len(self.PAPER)):
            self.shown(self.PAPER[:place] + self.PAPER[place + 1:], [])
            self.shown(self.PAPER[:place], [])

    def test_papers_that_lack_the_first_one_alone(self):
        self.shown([(0, (0,))], [])
        self.shown([(3, (2,))], [])
        self.shown([(4, (1,)), (0, (1,))], [])

    def test_papers_that_hold_more_than_is_come_to(self):
        self.shown(self.PAPER + [(2, (1,)), (2, (2,))], self.NEVER)
        self.shown(self.PAPER + [(0, (2,))], self.NEVER)
        self.shown(self.PAPER + [(4, (2,)), (0, (2,))], self.NEVER)
        self.shown(self.PAPER + [(4, (2,))], [])
        self.shown(self.PAPER + [(5, (0,))], [("side", 4, True)])
        self.shown(self.PAPER + [(5, (2,))], [])

    def test_more_that_would_meet_a_side_or_a_must(self):
        program = program_of("box a 4 0", "put a a*2", "if a = 3", "end", "must a < 2")
        paper = standings(program)
        for more, side, must in (([], True, True), ([(5, (3,))], True, False), ([(3, (2,)), (5, (2,))], True, False),
                                 ([(3, (3,)), (5, (3,))], False, False), ([(3, (1,)), (5, (1,)), (0, (1,))], True, True)):
            self.assertIs(standings_show(program, ("side", 3, True), paper + more), side)
            self.assertIs(standings_show(program, ("must", 5), paper + more), must)

    def test_each_figure_of_an_ask_is_looked_at(self):
        program = program_of("box a 10 0", "ask a", "must a < 9")
        paper = standings(program)
        self.assertIs(standings_show(program, ("must", 3), paper), False)
        for figure in range(10):
            lacking = [standing for standing in paper if standing != (3, (figure,))]
            self.assertIs(standings_show(program, ("must", 3), lacking), False)

    def test_the_end(self):
        program = program_of("box a 2 0", "while a < 2", "ask a", "end")
        self.assertIs(standings_show(program, ("end",), standings(program)), True)
        self.assertIs(standings_show(program, ("end",), standings(program) + [(0, (0,))]), False)
        self.assertIs(standings_show(([], []), ("end",), [(0, ())]), False)

    def test_a_run_that_goes_round(self):
        program = program_of("while 0 < 1", "end", "say 1")
        self.assertIs(standings_show(program, ("row", 3), [(1, ())]), True)
        self.assertIs(standings_show(program, ("end",), [(1, ())]), True)
        self.assertIs(standings_show(program, ("side", 1, False), [(1, ())]), True)
        self.assertIs(standings_show(program, ("side", 1, True), [(1, ())]), False)
        self.assertIs(standings_show(program, ("row", 1), [(1, ())]), False)

    def test_papers_of_more_than_two_thousand(self):
        program = program_of(*GREAT, "if 40 < a+b+c+d+4", "say 1", "end")
        values = list(itertools.product(range(10), repeat=4))
        paper = [(row, numbers) for row in (5, 6, 7, 8, 9, 0) for numbers in values]
        self.assertIs(standings_show(program, ("row", 10), paper), True)
        self.assertIs(standings_show(program, ("row", 10), paper[:-1]), False)
        self.assertIs(standings_show(program, ("row", 9), paper), False)

    def test_no_paper_shows_what_is_met(self):
        for program in made_programs(60, 14, sizes=(2,), most_boxes=1, most_statements=2, deepest=1):
            values = list(itertools.product(*[range(box[1]) for box in program[0]]))
            rows = [0] + [target[1] for target in targets(program) if target[0] == "row"]
            every = list(itertools.product(rows, values))
            if len(every) > 10:
                continue
            met = set().union(*[targets_met(program, figures) for figures in inputs_to(2)])
            for paper in itertools.chain(*[itertools.combinations(every, n) for n in range(len(every) + 1)]):
                for target in met:
                    self.assertIs(standings_show(program, target, list(paper)), False)

    def test_the_standings_show_just_what_no_input_meets(self):
        for program in made_programs(200, 15):
            paper = standings(program)
            for target in targets(program):
                self.assertIs(standings_show(program, target, paper), shortest(program, target) is None)

    def test_what_is_handed_in_stays_as_it_was(self):
        program, paper = copy.deepcopy(self.PROGRAM), list(self.PAPER)
        for target in targets(program):
            standings_show(program, target, paper)
        self.assertEqual((program, paper), (self.PROGRAM, self.PAPER))


class TestMeet(unittest.TestCase):
    PROGRAM = program_of("box a 10 0", "ask a", "if a < 10", "must a*2 = a+a", "else", "say 1", "end", "if a*a = 8",
                         "say 2", "end", "ask a", "must a < 7")

    def test_met(self):
        for target, figures in ((("row", 2), []), (("row", 3), [0]), (("side", 3, True), [0]), (("row", 11), [0]),
                                (("side", 8, False), [0]), (("row", 12), [0, 0]), (("must", 12), [0, 7]),
                                (("end",), [0, 0])):
            self.assertEqual(meet(self.PROGRAM, target), ("met", figures))

    def test_never_by_ranges(self):
        paper = least_ranges(self.PROGRAM)
        for target in (("side", 3, False), ("row", 6)):
            self.assertEqual(meet(self.PROGRAM, target), ("never", "ranges", paper))

    def test_never_by_standings_sorted(self):
        paper = sorted(standings(self.PROGRAM))
        self.assertNotEqual(paper, standings(self.PROGRAM))
        for target in (("must", 4), ("side", 8, True), ("row", 9)):
            self.assertEqual(meet(self.PROGRAM, target), ("never", "standings", paper))

    def test_a_small_one_written_out(self):
        program = program_of("box a 2 0", "ask a", "must a*a = a", "say a")
        self.assertEqual(meet(program, ("must", 3)), ("never", "standings", [
            (0, (0,)), (0, (1,)), (2, (0,)), (3, (0,)), (3, (1,)), (4, (0,)), (4, (1,))]))
        program = program_of("box a 2 0", "while a < 2", "ask a", "end")
        self.assertEqual(meet(program, ("end",)), ("never", "ranges", [(2, ((0, 1),)), (3, ((0, 1),))]))
        self.assertEqual(meet(program, ("side", 2, False)), ("never", "ranges", [(2, ((0, 1),)), (3, ((0, 1),))]))
        self.assertEqual(meet(program, ("row", 3)), ("met", []))

    def test_ranges_are_told_ahead_of_standings(self):
        program = program_of("stop", "say 1")
        self.assertEqual(meet(program, ("row", 2)), ("never", "ranges", [(0, ()), (1, ())]))

    def test_no_statements(self):
        self.assertEqual(meet(([], []), ("end",)), ("met", []))
        self.assertEqual(meet(([("a", 3, 1)], []), ("end",)), ("met", []))

    def test_too_many_only_where_ranges_do_not_tell_it(self):
        program = program_of(*GREAT, "if a = 10", "say 1", "end", "must a < 10", "if a*a = 8", "say 2", "end")
        paper = least_ranges(program)
        for target in targets(program):
            if target in (("side", 9, True), ("row", 10), ("must", 12)):
                self.assertEqual(meet(program, target), ("never", "ranges", paper))
            else:
                with self.assertRaises(TooMany):
                    meet(program, target)

    def test_just_as_many_standings_as_may_be_and_one_more(self):
        few, many = counted(19), counted(20)
        self.assertEqual(meet(few, ("row", 3)), ("met", []))
        self.assertEqual(meet(few, ("end",)), ("met", [0, 0]))
        for target in targets(many):
            with self.assertRaises(TooMany):
                meet(many, target)

    def test_many_programs_once_more(self):
        kinds = set()
        for program in made_programs(200, 16):
            met = set().union(*[targets_met(program, figures) for figures in inputs_to(1)])
            for target in targets(program):
                told = meet(program, target)
                by_ranges = ranges_show(program, target, least_ranges(program))
                kinds.add(told[:2] if told[0] == "never" else "met")
                if by_ranges:
                    self.assertEqual(told, ("never", "ranges", least_ranges(program)))
                elif told[0] == "met":
                    self.assertEqual(told, ("met", shortest(program, target)))
                    self.assertIs(meets(program, told[1], target), True)
                else:
                    self.assertEqual(told, ("never", "standings", sorted(standings(program))))
                    self.assertIs(standings_show(program, target, told[2]), True)
                if target in met:
                    self.assertEqual(told[0], "met")
                    self.assertLessEqual(len(told[1]), 1)
        self.assertEqual(len(kinds), 3)

    def test_told_lists_are_the_askers_own(self):
        before = copy.deepcopy(self.PROGRAM)
        for target in targets(self.PROGRAM):
            told, again = meet(self.PROGRAM, target), meet(self.PROGRAM, target)
            self.assertEqual([type(told), type(told[-1])], [tuple, list])
            self.assertTrue(are_all_unlike(told, again, self.PROGRAM))
            told[-1].append("changed")
            self.assertEqual(meet(self.PROGRAM, target), again)
        self.assertEqual(self.PROGRAM, before)


if __name__ == "__main__":
    unittest.main()
