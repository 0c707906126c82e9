"""Promises 9 and 10: standings, steps, runs and how they end; promise 2 over them."""

import copy
import unittest

from everyrow.runs import first_standing, run, step
from helper import are_all_unlike, made_programs, program_of, run_again, walked_once

ZERO = ("number", 0)
ONE = ("number", 1)
A = ("box", "a")


class TestFirstStanding(unittest.TestCase):
    def test_with_statements(self):
        self.assertEqual(first_standing(program_of("stop")), (1, ()))
        self.assertEqual(first_standing(program_of("box a 4 3", "box b 2 0", "say a", "stop")), (3, (3, 0)))
        self.assertEqual(first_standing(program_of("while 0 < 1", "stop", "end")), (1, ()))

    def test_without_statements(self):
        self.assertEqual(first_standing(program_of("box a 4 3", "box b 9 8")), (0, (3, 8)))
        self.assertEqual(first_standing(([("a", 4, 1)], [])), (0, (1,)))
        self.assertEqual(first_standing(([], [])), (0, ()))

    def test_rows_with_gaps(self):
        self.assertEqual(first_standing(([("a", 2, 1)], [("say", 77, A), ("stop", 999)])), (77, (1,)))

    def test_kinds(self):
        standing = first_standing(program_of("box a 4 3", "say a"))
        self.assertEqual([type(standing), type(standing[0]), type(standing[1])], [tuple, int, tuple])


class TestStep(unittest.TestCase):
    def steps(self, rows, standing, figure, told):
        self.assertEqual(step(program_of(*rows), standing, figure), told)

    def test_ask_takes_the_rest_of_the_figure(self):
        for size in range(2, 11):
            for figure in range(10):
                self.steps([f"box a {size} 0", "box b 2 0", "ask a", "stop"], (3, (1, 1)), figure,
                           ((4, (figure % size, 1)), None))

    def test_ask_leaves_the_other_boxes(self):
        rows = ["box a 5 0", "box b 6 0", "box c 7 0", "ask b"]
        self.steps(rows, (4, (4, 5, 6)), 8, ((0, (4, 2, 6)), None))

    def test_put_takes_the_rest_of_the_worth(self):
        self.steps(["box a 4 0", "box b 5 0", "put a b+3"], (3, (1, 4)), None, ((0, (3, 4)), None))
        self.steps(["box a 4 0", "put a a+1", "stop"], (2, (3,)), None, ((3, (0,)), None))
        self.steps(["box a 7 0", "put a 999*999", "stop"], (2, (3,)), None, ((3, (998001 % 7,)), None))

    def test_put_of_a_worth_below_nought(self):
        for size in range(2, 11):
            for less in range(25):
                rest = -less
                while rest < 0:
                    rest += size
                self.steps([f"box a {size} 0", f"put a 0-{less}"], (2, (1,)), None, ((0, (rest,)), None))
        self.steps(["box a 10 0", "put a (0-3)*5"], (2, (1,)), None, ((0, (5,)), None))

    def test_say_tells_the_worth_as_it_is(self):
        self.steps(["box a 4 0", "say a*a", "stop"], (2, (3,)), None, ((3, (3,)), 9))
        self.steps(["box a 4 0", "say 0-a"], (2, (3,)), None, ((0, (3,)), -3))
        self.steps(["say 0"], (1, ()), None, ((0, ()), 0))

    def test_stop_leads_to_the_end(self):
        self.steps(["box a 4 0", "stop", "say a"], (2, (2,)), None, ((0, (2,)), None))

    def test_must(self):
        for a in range(5):
            for sign, truth in (("<", a < 2), ("=", a == 2)):
                told = ((3, (a,)), None) if truth else (None, None)
                self.steps(["box a 5 0", f"must a {sign} 2", "stop"], (2, (a,)), None, told)

    def test_if_and_while(self):
        for a in range(5):
            for sign, truth in (("<", a < 2), ("=", a == 2)):
                self.steps(["box a 5 0", f"if a {sign} 2", "say 1", "else", "say 2", "end"], (2, (a,)), None,
                           ((3 if truth else 5, (a,)), None))
                self.steps(["box a 5 0", f"while a {sign} 2", "say 1", "end"], (2, (a,)), None,
                           ((3 if truth else 0, (a,)), None))

    def test_bodies_without_statements(self):
        self.steps(["while 0 < 1", "end", "stop"], (1, ()), None, ((1, ()), None))
        self.steps(["if 0 < 1", "end", "stop"], (1, ()), None, ((3, ()), None))
        self.steps(["if 1 < 0", "stop", "else", "end"], (1, ()), None, ((0, ()), None))

    def test_the_last_one_of_a_body(self):
        self.steps(["box a 3 0", "while a < 2", "ask a", "end"], (3, (0,)), 4, ((2, (1,)), None))

    def test_rows_with_gaps(self):
        body = [("while", 7, "<", A, ONE, [("put", 300, "a", ("+", A, ONE))]), ("say", 999, A)]
        program = ([("a", 3, 0)], body)
        self.assertEqual(step(program, (7, (0,)), None), ((300, (0,)), None))
        self.assertEqual(step(program, (300, (0,)), None), ((7, (1,)), None))
        self.assertEqual(step(program, (7, (1,)), None), ((999, (1,)), None))
        self.assertEqual(step(program, (999, (1,)), None), ((0, (1,)), 1))

    def test_sizes_and_numbers_somewhat_beyond(self):
        great = 10 ** 30 - 1
        program = ([("a", 12, 11), ("b", 1, 0)], [("put", 1, "a", ("number", great)), ("say", 2, ("*", A, A))])
        self.assertEqual(step(program, (1, (11, 0)), None), ((2, (great % 12, 0)), None))
        self.assertEqual(step(program, (2, (11, 0)), None), ((0, (11, 0)), 121))

    def test_what_is_handed_in_stays_as_it_was(self):
        program = program_of("box a 4 0", "while a < 3", "ask a", "put a a+1", "if a = 2", "say a", "end", "end")
        before = copy.deepcopy(program)
        standing = (3, (1,))
        step(program, standing, 7)
        step(program, (4, (1,)), None)
        first_standing(program)
        self.assertEqual(program, before)
        self.assertEqual(standing, (3, (1,)))

    def test_what_the_asker_changes_is_seen_at_the_next_asking(self):
        program = program_of("box a 4 0", "say a")
        self.assertEqual(first_standing(program), (2, (0,)))
        program[0][0] = ("a", 4, 3)
        program[1].clear()
        self.assertEqual(first_standing(program), (0, (3,)))
        program[1].append(("put", 5, "a", ZERO))
        self.assertEqual(step(program, (5, (3,)), None), ((0, (0,)), None))


class TestRun(unittest.TestCase):
    def runs(self, rows, figures, bound, told):
        self.assertEqual(run(program_of(*rows), figures, bound), told)

    ASKS = ["box a 4 0", "ask a", "say a", "ask a", "say a*2"]
    COUNTS = ["box a 5 0", "while a < 3", "put a a+1", "say a", "end"]
    ROUND = ["while 0 < 1", "end"]

    def test_ends_by_end(self):
        self.runs(self.ASKS, [7, 2], 100, ([2, 3, 4, 5], [3, 4], ("end",)))
        self.runs(self.COUNTS, [], 100, ([2, 3, 4, 2, 3, 4, 2, 3, 4, 2], [1, 2, 3], ("end",)))
        self.runs(["stop", "say 1"], [], 100, ([1], [], ("end",)))

    def test_ends_by_out(self):
        self.runs(self.ASKS, [], 100, ([2], [], ("out",)))
        self.runs(self.ASKS, [9], 100, ([2, 3, 4], [1], ("out",)))

    def test_ends_by_must(self):
        rows = ["box a 9 0", "ask a", "say a", "must a < 4", "say 8"]
        self.runs(rows, [3], 100, ([2, 3, 4, 5], [3, 8], ("end",)))
        self.runs(rows, [4], 100, ([2, 3, 4], [4], ("must", 4)))
        self.assertEqual(run(([], [("must", 345, "=", ZERO, ONE)]), [], 1), ([345], [], ("must", 345)))

    def test_ends_by_on(self):
        self.runs(self.ROUND, [], 7, ([1] * 7, [], ("on",)))
        self.runs(["while 0 < 1", "say 5", "end"], [1, 2], 5, ([1, 2, 1, 2, 1], [5, 5], ("on",)))

    def test_every_bound_of_a_run_to_the_end(self):
        for bound in range(13):
            rows = [2, 3, 4, 2, 3, 4, 2, 3, 4, 2][:bound]
            said = [1, 2, 3][:rows.count(4)]
            end = ("on",) if bound < 10 else ("end",)
            self.runs(self.COUNTS, [], bound, (rows, said, end))

    def test_every_bound_of_a_run_to_an_ask_without_a_figure(self):
        for bound in range(6):
            rows = [2, 3, 4][:bound]
            self.runs(self.ASKS, [2], bound, (rows, [2][:rows.count(3)], ("on",) if bound < 3 else ("out",)))
        self.runs(self.ASKS, [], 0, ([], [], ("on",)))

    def test_every_bound_of_a_run_to_a_failing_must(self):
        for bound in range(5):
            self.runs(["say 1", "must 1 < 1", "say 2"], [], bound,
                      ([1, 2][:bound], [1][:bound], ("on",) if bound < 2 else ("must", 2)))

    def test_no_statements_end_at_each_bound(self):
        for program in (([], []), ([("a", 2, 1)], [])):
            for bound in (0, 1, 10000):
                self.assertEqual(run(program, [], bound), ([], [], ("end",)))
                self.assertEqual(run(program, [1, 2], bound), ([], [], ("end",)))

    def test_the_greatest_bound_and_one_beyond_it(self):
        self.runs(self.ROUND, [], 10000, ([1] * 10000, [], ("on",)))
        self.runs(self.ROUND, [], 10001, ([1] * 10001, [], ("on",)))
        self.runs(["box a 10 0", "while 0 < 1", "put a a+1", "say a-9", "end"], [], 9999,
                  ([2, 3, 4] * 3333, [(n % 10) - 9 for n in range(1, 3334)], ("on",)))

    def test_figures_left_over(self):
        self.runs(self.ASKS, [1, 2, 3, 4], 100, ([2, 3, 4, 5], [1, 4], ("end",)))
        self.runs(["must 1 = 0"], [1, 2], 100, ([1], [], ("must", 1)))
        self.runs(self.ROUND, [1, 2], 2, ([1, 1], [], ("on",)))

    def test_nought_is_said_and_nothing_is_not(self):
        self.runs(["box a 2 0", "say a", "put a 1", "say 0-a"], [], 9, ([2, 3, 4], [0, -1], ("end",)))

    def test_an_ask_in_a_loop(self):
        rows = ["box a 10 0", "while a < 9", "ask a", "say a", "end", "stop"]
        self.runs(rows, [3, 0, 9, 5], 99, ([2, 3, 4, 2, 3, 4, 2, 3, 4, 2, 6], [3, 0, 9], ("end",)))
        self.runs(rows, [3, 0], 99, ([2, 3, 4, 2, 3, 4, 2, 3], [3, 0], ("out",)))

    def test_runs_of_many_programs_once_more(self):
        for program in made_programs(300, 1):
            for figures in ([], [3], [0, 1], [7, 4, 9], [1, 0, 2, 3, 5, 1, 0]):
                for bound in (0, 1, 2, 5, 40):
                    self.assertEqual(run(program, figures, bound), run_again(program, figures, bound), program)

    def test_steps_of_many_programs_once_more(self):
        for program in made_programs(200, 2):
            figures = [7, 4, 0, 9]
            told = walked_once(program, figures)
            self.assertEqual(first_standing(program), told[0][0])
            for (standing, taken, note), (behind, later, other) in zip(told, told[1:]):
                figure = figures[taken] if later > taken else None
                said = note if isinstance(note, int) and not isinstance(note, bool) else None
                self.assertEqual(step(program, standing, figure), (behind, said))
            if told[-1][2] == "must":
                self.assertEqual(step(program, told[-1][0], None), (None, None))

    def test_kinds(self):
        rows, said, end = told = run(program_of("box a 3 0", "ask a", "say a-1"), [0], 9)
        self.assertEqual([type(told), type(rows), type(said), type(end)], [tuple, list, list, tuple])
        self.assertEqual([type(n) for n in rows + said], [int] * 3)

    def test_told_lists_are_the_askers_own(self):
        program = program_of("box a 4 0", "while a < 3", "ask a", "say a", "end")
        before, figures = copy.deepcopy(program), [1, 2]
        for bound in (0, 3, 99):
            told = run(program, figures, bound)
            again = run(program, figures, bound)
            self.assertEqual(told, again)
            self.assertTrue(are_all_unlike(told, again, program, figures))
            told[0].append(88)
            told[1].append(99)
            self.assertEqual(run(program, figures, bound), again)
        self.assertEqual(program, before)
        self.assertEqual(figures, [1, 2])

    def test_told_lists_without_members_are_two(self):
        told = run(([], []), [], 0)
        told[0].append(1)
        self.assertEqual(told, ([1], [], ("end",)))
        self.assertEqual(run(([], []), [], 0), ([], [], ("end",)))


if __name__ == "__main__":
    unittest.main()
