"""Promises 21 and 22: what is seen, alike papers, alike or apart; promises 2 and 3 over them."""

import copy
import itertools
import unittest

from everyrow.apart import right_alike, seen_from, told_apart
from everyrow.changes import changes
from everyrow.errors import TooMany
from everyrow.runs import first_standing, step
from everyrow.targets import standings
from helper import (are_all_unlike, asking_first, counted, inputs_to, made_programs, program_of, sights_again,
                    words_by_row)

ZERO = ("number", 0)
ONE = ("number", 1)
GREAT = ("box a 10 0", "box b 10 0", "box c 10 0", "box d 10 0", "ask a", "ask b", "ask c", "ask d")


def seen_again(program, standing):
    """What is seen from a standing, by going on from it step by step."""
    words, passed = words_by_row(program[1]), []
    while standing not in passed:
        word = words.get(standing[0], "end")
        if word == "end":
            return ("end",), None
        if word == "ask":
            return ("ask",), standing
        behind, said = step(program, standing, None)
        if behind is None:
            return ("must",), None
        if word == "say":
            return ("say", said), behind
        passed.append(standing)
        standing = behind
    return ("round",), None


def every_standing(program):
    rows = [0] + list(words_by_row(program[1]))
    return list(itertools.product(rows, itertools.product(*[range(box[1]) for box in program[0]])))


class TestSeenFrom(unittest.TestCase):
    PROGRAM = program_of("box a 4 0", "put a a+1", "if a < 3", "say a*5", "end", "must a < 3", "ask a", "must a = a",
                         "stop", "say 7")

    def test_an_ask_with_the_standing_at_it(self):
        self.assertEqual(seen_from(self.PROGRAM, (7, (2,))), (("ask",), (7, (2,))))
        self.assertEqual(seen_from(self.PROGRAM, (6, (2,))), (("ask",), (7, (2,))))
        self.assertEqual(seen_from(self.PROGRAM, (6, (0,))), (("ask",), (7, (0,))))

    def test_a_say_with_the_standing_behind_it(self):
        self.assertEqual(seen_from(self.PROGRAM, (2, (0,))), (("say", 5), (6, (1,))))
        self.assertEqual(seen_from(self.PROGRAM, (3, (2,))), (("say", 10), (6, (2,))))
        self.assertEqual(seen_from(self.PROGRAM, (4, (3,))), (("say", 15), (6, (3,))))
        self.assertEqual(seen_from(self.PROGRAM, (2, (3,))), (("say", 0), (6, (0,))))
        self.assertEqual(seen_from(self.PROGRAM, (10, (3,))), (("say", 7), (0, (3,))))

    def test_a_number_below_nought_and_a_great_one(self):
        program = program_of("box a 4 3", "say 2-a*999*999")
        self.assertEqual(seen_from(program, (2, (3,))), (("say", 2 - 3 * 999 * 999), (0, (3,))))
        self.assertEqual(seen_from(program, (2, (0,))), (("say", 2), (0, (0,))))

    def test_the_end(self):
        self.assertEqual(seen_from(self.PROGRAM, (0, (2,))), (("end",), None))
        self.assertEqual(seen_from(self.PROGRAM, (8, (2,))), (("end",), None))
        self.assertEqual(seen_from(self.PROGRAM, (9, (1,))), (("end",), None))
        self.assertEqual(seen_from(([], []), (0, ())), (("end",), None))
        self.assertEqual(seen_from(([("a", 3, 1)], []), (0, (1,))), (("end",), None))

    def test_a_failing_must_whichever_row(self):
        self.assertEqual(seen_from(self.PROGRAM, (6, (3,))), (("must",), None))
        self.assertEqual(seen_from(self.PROGRAM, (2, (2,))), (("must",), None))
        self.assertEqual(seen_from(program_of("must 1 = 0"), (1, ())), (("must",), None))

    def test_round(self):
        self.assertEqual(seen_from(program_of("while 0 < 1", "end", "say 1"), (1, ())), (("round",), None))
        program = program_of("box a 10 0", "box b 10 0", "while 0 < 1", "put a a+1", "if a = 0", "put b b+1", "end",
                             "end")
        for standing in standings(program):
            self.assertEqual(seen_from(program, standing), (("round",), None))

    def test_round_for_some_values_alone(self):
        program = program_of("box a 10 0", "while 0 < a", "put a a+2", "end", "say a")
        for value in range(10):
            seen = (("round",), None) if value % 2 else (("say", 0), (0, (0,)))
            self.assertEqual(seen_from(program, (2, (value,))), seen)

    def test_a_round_that_is_come_to_from_outside(self):
        program = program_of("box a 4 0", "put a 2", "put a a", "while a = 2", "put a a*1", "end")
        self.assertEqual(seen_from(program, (2, (0,))), (("round",), None))
        self.assertEqual(seen_from(program, (5, (2,))), (("round",), None))
        self.assertEqual(seen_from(program, (5, (1,))), (("end",), None))

    def test_a_loop_that_says_for_ever(self):
        program = program_of("box a 3 0", "while 0 < 1", "say a", "put a a+1", "end")
        self.assertEqual(seen_from(program, (2, (0,))), (("say", 0), (4, (0,))))
        self.assertEqual(seen_from(program, (4, (0,))), (("say", 1), (4, (1,))))
        self.assertEqual(seen_from(program, (4, (2,))), (("say", 0), (4, (0,))))

    def test_a_long_way_unseen(self):
        rows = ["box a 10 1", "box b 10 0", "box c 10 0", "box d 10 0", "while 0 < a+b+c+d", "put a a+1",
                "if a = 0", "put b b+1", "if b = 0", "put c c+1", "if c = 0", "put d d+1", "end", "end", "end",
                "end", "say 1"]
        program = program_of(*rows)
        self.assertEqual(seen_from(program, first_standing(program)), (("say", 1), (0, (0, 0, 0, 0))))

    def test_rows_with_gaps_and_bodies_without_statements(self):
        body = [("if", 5, "<", ZERO, ONE, [], []), ("while", 70, "=", ZERO, ONE, []), ("say", 800, ONE),
                ("while", 999, "<", ZERO, ONE, [])]
        self.assertEqual(seen_from(([], body), (5, ())), (("say", 1), (999, ())))
        self.assertEqual(seen_from(([], body), (999, ())), (("round",), None))

    def test_many_programs_once_more(self):
        kinds = set()
        for program in made_programs(150, 41):
            for standing in every_standing(program):
                told = seen_from(program, standing)
                self.assertEqual(told, seen_again(program, standing), (program, standing))
                self.assertEqual([type(told), type(told[0])], [tuple, tuple])
                kinds.add(told[0][0])
        self.assertEqual(kinds, {"ask", "say", "end", "must", "round"})

    def test_what_is_handed_in_stays_as_it_was(self):
        program = copy.deepcopy(self.PROGRAM)
        told = [seen_from(program, standing) for standing in standings(program)]
        self.assertEqual([seen_from(program, standing) for standing in standings(program)], told)
        self.assertEqual(program, self.PROGRAM)
        program[1].clear()
        self.assertEqual(seen_from(program, (0, (1,))), (("end",), None))


class TestRightAlike(unittest.TestCase):
    ONE = program_of("box a 3 0", "ask a", "say a+a", "say 1")
    OTHER = program_of("box b 3 1", "box c 2 0", "put c 1", "ask b", "say 2*b", "must c = 1", "say c")
    PAPER = (
        [((2, (0,)), (3, (1, 0)))]
        + [((3, (a,)), (5, (a, 1))) for a in range(3)]
        + [((4, (a,)), (6, (a, 1))) for a in range(3)]
        + [((0, (a,)), (0, (a, 1))) for a in range(3)])

    def right(self, paper, wanted):
        self.assertIs(right_alike(self.ONE, self.OTHER, paper), wanted)

    def test_a_right_one(self):
        self.right(self.PAPER, True)
        turned = [(other, one) for one, other in self.PAPER]
        self.assertIs(right_alike(self.OTHER, self.ONE, turned), True)

    def test_any_order_and_twice(self):
        self.right(self.PAPER[::-1], True)
        self.right(self.PAPER + self.PAPER, True)

    def test_each_pair_is_needed(self):
        for place in range(len(self.PAPER)):
            self.right(self.PAPER[:place] + self.PAPER[place + 1:], False)
            self.right(self.PAPER[:place], False)

    def test_the_first_pair_alone_lacks(self):
        self.right([], False)
        self.right([((0, (0,)), (0, (0, 1)))], False)
        self.right(self.PAPER[1:], False)

    def test_a_pair_behind_a_say_lacks(self):
        one, other = program_of("say 1"), program_of("say 1", "stop")
        self.assertIs(right_alike(one, other, [((1, ()), (1, ()))]), False)
        self.assertIs(right_alike(one, other, [((1, ()), (1, ())), ((0, ()), (2, ()))]), True)
        self.assertIs(right_alike(one, other, [((1, ()), (1, ())), ((0, ()), (0, ()))]), False)

    def test_a_pair_behind_an_ask_by_one_figure_lacks(self):
        one = program_of("box a 10 0", "ask a", "stop")
        paper = [((2, (0,)), (2, (0,)))] + [((3, (a,)), (3, (a,))) for a in range(10)]
        self.assertIs(right_alike(one, one, paper), True)
        for figure in range(10):
            lacking = [pair for pair in paper if pair != ((3, (figure,)), (3, (figure,)))]
            self.assertIs(right_alike(one, one, lacking), False)

    def test_more_pairs_that_are_right(self):
        self.right(self.PAPER + [((0, (0,)), (0, (1, 0)))], True)
        self.right(self.PAPER + [((4, (2,)), (7, (1, 1))), ((0, (2,)), (0, (1, 1)))], True)
        self.right(self.PAPER + [((2, (1,)), (4, (2, 1)))], True)

    def test_more_pairs_that_lack_what_is_behind(self):
        self.right(self.PAPER + [((4, (2,)), (7, (1, 1)))], False)
        self.right(self.PAPER + [((2, (1,)), (4, (2, 0)))], False)

    def test_more_pairs_of_unlike_sights(self):
        for more in (((0, (0,)), (3, (0, 0))), ((0, (0,)), (6, (0, 0))), ((3, (1,)), (5, (2, 1))),
                     ((4, (0,)), (7, (0, 0))), ((2, (0,)), (0, (0, 0))), ((2, (0,)), (5, (0, 0))),
                     ((3, (0,)), (4, (0, 0)))):
            self.right(self.PAPER + [more], False)
            self.right([more] + self.PAPER, False)

    def test_the_first_pair_sees_unlike_things(self):
        one, other = program_of("say 1"), program_of("say 2")
        self.assertIs(right_alike(one, other, [((1, ()), (1, ())), ((0, ()), (0, ()))]), False)

    def test_sights_from_which_nothing_goes_on(self):
        round_one, round_other = program_of("while 0 < 1", "end"), program_of("while 1 = 1", "while 2 = 2", "end", "end")
        self.assertIs(right_alike(round_one, round_other, [((1, ()), (1, ()))]), True)
        failing, other = program_of("must 0 = 1"), program_of("must 0 = 0", "must 1 = 0")
        self.assertIs(right_alike(failing, other, [((1, ()), (1, ()))]), True)
        self.assertIs(right_alike(round_one, failing, [((1, ()), (1, ()))]), False)
        self.assertIs(right_alike(([], []), program_of("stop"), [((0, ()), (1, ()))]), True)
        self.assertIs(right_alike(([], []), failing, [((0, ()), (1, ()))]), False)
        self.assertIs(right_alike(([], []), round_one, [((0, ()), (1, ()))]), False)

    def test_says_for_ever(self):
        one = program_of("while 0 < 1", "say 1", "end")
        other = program_of("while 0 < 1", "say 1", "say 1", "end")
        paper = [((1, ()), (1, ())), ((1, ()), (3, ()))]
        self.assertIs(right_alike(one, other, paper), True)
        self.assertIs(right_alike(one, other, paper[:1]), False)
        self.assertIs(right_alike(one, other, paper[1:]), False)

    def test_papers_of_more_than_two_thousand(self):
        program = program_of(*GREAT)
        values = list(itertools.product(range(10), repeat=4))
        paper = [((row, numbers), (row, numbers)) for row in (5, 6, 7, 8, 0) for numbers in values]
        self.assertIs(right_alike(program, program, paper), True)
        self.assertIs(right_alike(program, program, paper[:-1]), False)

    def test_no_paper_lets_unlike_programs_by(self):
        tried = 0
        for program in made_programs(150, 42, sizes=(2,), most_boxes=1, most_statements=2, deepest=1):
            for changed in changes(program):
                pairs = list(itertools.product(every_standing(program), every_standing(changed)))
                if len(pairs) <= 9 and told_apart(program, changed)[0] == "apart":
                    tried += 1
                    for paper in itertools.chain(*[itertools.combinations(pairs, n) for n in range(len(pairs) + 1)]):
                        self.assertIs(right_alike(program, changed, list(paper)), False)
        self.assertGreater(tried, 20)

    def test_what_is_handed_in_stays_as_it_was(self):
        one, other, paper = copy.deepcopy((self.ONE, self.OTHER, self.PAPER))
        self.assertIs(right_alike(one, other, paper), True)
        self.assertEqual((one, other, paper), (self.ONE, self.OTHER, self.PAPER))
        paper.pop()
        self.assertIs(right_alike(one, other, paper), False)
        paper.append(self.PAPER[-1])
        self.assertIs(right_alike(one, other, paper), True)


class TestToldApart(unittest.TestCase):
    def apart(self, one, other, figures):
        self.assertEqual(told_apart(one, other), ("apart", figures))
        self.assertEqual(told_apart(other, one), ("apart", figures))

    def alike(self, one, other, count):
        for first, second in ((one, other), (other, one)):
            told = told_apart(first, second)
            self.assertEqual([type(told), len(told), told[0], type(told[1])], [tuple, 2, "alike", list])
            self.assertEqual([len(told[1]), len(set(told[1]))], [count, count])
            self.assertIs(right_alike(first, second, told[1]), True)

    def test_no_statements(self):
        self.assertEqual(told_apart(([], []), ([], [])), ("alike", [((0, ()), (0, ()))]))
        self.assertEqual(told_apart(([("a", 3, 1)], []), ([], [])), ("alike", [((0, (1,)), (0, ()))]))
        self.apart(([], []), program_of("say 1"), [])
        self.alike(([], []), program_of("stop"), 1)

    def test_apart_without_figures(self):
        asks, says, ends = program_of("box a 2 0", "ask a"), program_of("say 0"), program_of("stop")
        fails, rounds = program_of("must 0 = 1"), program_of("while 0 < 1", "end")
        for one, other in itertools.combinations([asks, says, ends, fails, rounds], 2):
            self.apart(one, other, [])
        for one in (ends, fails, rounds):
            self.alike(one, one, 1)
        self.alike(says, says, 2)
        self.alike(asks, asks, 3)

    def test_numbers_said(self):
        self.apart(program_of("say 1"), program_of("say 2"), [])
        self.apart(program_of("say 1", "say 2"), program_of("say 1", "say 3"), [])
        self.alike(program_of("say 1+1"), program_of("say 4-2"), 2)

    def test_more_is_said_or_asked(self):
        self.apart(program_of("say 1"), program_of("say 1", "say 1"), [])
        self.apart(program_of("box a 2 0", "ask a"), program_of("box a 2 0", "ask a", "ask a"), [0])
        self.apart(program_of("box a 2 0", "ask a", "say 1"), program_of("box a 2 0", "say 1", "ask a"), [])

    def test_whichever_must_fails(self):
        one = program_of("box a 4 0", "ask a", "must a < 2", "must a < 3")
        other = program_of("box a 4 0", "ask a", "must a < 3", "must a < 2")
        self.alike(one, other, 5)

    def test_the_first_of_the_shortest(self):
        one = program_of("box a 10 0", "ask a", "if a = 7", "say 1", "else", "if a = 4", "say 2", "end", "end")
        other = program_of("box a 10 0", "ask a")
        self.apart(one, other, [4])
        one = program_of("box a 10 0", "box b 10 0", "ask a", "ask b", "if a*b = 12", "say 1", "end")
        other = program_of("box a 10 0", "box b 10 0", "ask a", "ask b")
        self.apart(one, other, [2, 6])

    def test_fewer_figures_ahead_of_smaller_ones(self):
        one = program_of("box a 10 0", "ask a", "if a = 0", "ask a", "say 1", "end", "if a = 8", "say 2", "end")
        other = program_of("box a 10 0", "ask a", "if a = 0", "ask a", "say 3", "end")
        self.apart(one, other, [8])
        one = program_of("box a 10 0", "ask a", "if a = 0", "ask a", "say 1", "end")
        self.apart(one, other, [0, 0])

    def test_figures_beyond_the_size_come_last(self):
        self.apart(program_of("box a 10 0", "ask a", "say a"), program_of("box a 4 0", "ask a", "say a"), [4])
        self.apart(program_of("box a 2 0", "ask a", "say a"), program_of("box a 3 0", "ask a", "say a"), [2])
        self.alike(program_of("box a 2 0", "ask a"), program_of("box a 3 0", "ask a"), 7)

    def test_unlike_boxes(self):
        one = program_of("box a 2 1", "while 0 < 1", "ask a", "say a", "end")
        other = program_of("box b 4 2", "box c 2 0", "while 0 < 1", "ask b", "put c b", "say c", "end")
        told = told_apart(one, other)
        self.assertEqual(told[0], "alike")
        self.assertIs(right_alike(one, other, told[1]), True)
        other = program_of("box b 5 2", "while 0 < 1", "ask b", "if b < 2", "say b", "else", "say b-2", "end", "end")
        self.apart(one, other, [4])

    def test_apart_only_by_what_is_kept(self):
        one = program_of("box a 5 0", "box b 2 0", "while 0 < 1", "ask b", "put a a+1", "say a*0", "end")
        other = program_of("box a 5 0", "box b 2 0", "while 0 < 1", "ask b", "put a a+1", "if a = 4", "say 1", "else",
                           "say 0", "end", "end")
        self.apart(one, other, [0, 0, 0, 0])

    def test_says_for_ever(self):
        one = program_of("while 0 < 1", "say 1", "end")
        self.alike(one, program_of("while 0 < 1", "say 1", "say 1", "end"), 2)
        self.apart(one, program_of("box a 9 0", "while a < 8", "say 1", "put a a+1", "end"), [])
        self.apart(one, program_of("box a 9 0", "while 0 < 1", "say 8*1-7+0*a", "put a a+1", "must a < 8", "end"), [])
        counts = program_of("box a 9 0", "while 0 < 1", "say 1", "put a a+1", "end")
        self.alike(one, counts, 10)

    def test_round_for_ever(self):
        one = program_of("box a 2 0", "ask a", "while a = 1", "end")
        other = program_of("box a 2 0", "ask a", "if a = 1", "while 0 < 1", "put a 0", "end", "end")
        self.alike(one, other, 3)
        self.apart(one, program_of("box a 2 0", "ask a"), [1])

    def test_figures_go_on_for_ever(self):
        one = program_of("box a 4 0", "while 0 < 1", "ask a", "end")
        self.alike(one, program_of("box a 3 0", "ask a", "while 0 < 1", "ask a", "end"), 1 + 10)

    def test_rows_with_gaps_and_bodies_without_statements(self):
        body = [("if", 5, "<", ZERO, ONE, [], []), ("ask", 70, "a"), ("if", 80, "=", ("box", "a"), ONE, [], []),
                ("say", 999, ONE)]
        self.alike(([("a", 2, 0)], body), program_of("box a 2 0", "ask a", "say 1"), 5)

    def differing(self, ahead):
        """Two programs with as many pairs as ahead and 1981, a hundred of them unlike, which two figures part."""
        rows = ["box a 10 0", "box b 10 0"] + ["say 0"] * ahead + ["ask a"] + ["say 1"] * 7 + ["ask b"] + ["say 2"] * 18
        return program_of(*rows, "say 3"), program_of(*rows, "say 4")

    def test_just_as_many_pairs_as_may_be_and_one_more(self):
        self.alike(counted(19), counted(19), 2000)
        for ahead in (20, 21):
            with self.assertRaises(TooMany):
                told_apart(counted(ahead), counted(ahead))

    def test_unlike_pairs_are_counted_but_nothing_behind_them(self):
        self.apart(*self.differing(18), [0, 0])
        self.apart(*self.differing(19), [0, 0])
        with self.assertRaises(TooMany):
            told_apart(*self.differing(20))

    def test_too_many_ahead_of_apart(self):
        one = program_of(*GREAT[:5], "if a = 0", "say 1", "end", *GREAT[5:])
        other = program_of(*GREAT[:5], *GREAT[5:])
        with self.assertRaises(TooMany):
            told_apart(one, other)
        self.apart(program_of("say 1"), program_of(*GREAT), [])

    def test_many_standings_but_few_pairs(self):
        great = program_of("box a 10 1", "box b 10 0", "box c 10 0", "box d 10 0", "while 0 < a+b+c+d", "put a a+1",
                           "if a = 0", "put b b+1", "if b = 0", "put c c+1", "if c = 0", "put d d+1", "end", "end",
                           "end", "end", "ask a", "say a")
        self.alike(great, program_of("box a 10 0", "ask a", "say a"), 21)

    def parts(self, one, other, figures):
        return sights_again(one, figures) != sights_again(other, figures)

    def checked(self, one, other, length):
        """What is told is right by trying all inputs up to a length, and by the checker."""
        told = told_apart(one, other)
        self.assertEqual(told_apart(one, other), told)
        first = next((figures for figures in inputs_to(length) if self.parts(one, other, figures)), None)
        if told[0] == "alike":
            self.assertIsNone(first, (one, other))
            self.assertIs(right_alike(one, other, told[1]), True)
        elif first is None:
            self.assertGreater(len(told[1]), length)
            self.assertIs(self.parts(one, other, told[1]), True)
            self.assertIs(self.parts(one, other, told[1][:-1]), False)
        else:
            self.assertEqual(told, ("apart", first))
        return told

    def test_many_programs_and_their_changes_once_more(self):
        lengths = set()
        for program in made_programs(60, 43) + [asking_first(program) for program in made_programs(40, 44)]:
            for changed in changes(program)[::3]:
                told = self.checked(program, changed, 1)
                lengths.add(len(told[1]) if told[0] == "apart" else "alike")
        self.assertLessEqual({"alike", 0, 1, 2}, lengths)

    def test_many_pairs_of_programs_once_more(self):
        programs = made_programs(120, 45, most_boxes=1, most_statements=2, deepest=1)
        for one, other in zip(programs, programs[1:]):
            self.checked(one, other, 1)

    def test_two_figures_once_more(self):
        for program in [asking_first(program) for program in made_programs(12, 46, sizes=(2, 3))]:
            for changed in changes(program)[::4]:
                self.checked(program, changed, 2)

    def test_each_pair_of_a_told_paper_is_needed(self):
        for program in made_programs(30, 47):
            for changed in changes(program)[:6]:
                told = told_apart(program, changed)
                if told[0] == "alike" and len(told[1]) < 60:
                    for place in range(len(told[1])):
                        lacking = told[1][:place] + told[1][place + 1:]
                        self.assertIs(right_alike(program, changed, lacking), False)

    def test_told_lists_are_the_askers_own(self):
        same = program_of("box a 3 0", "ask a", "say a")
        for one, other in ((same, same), (same, program_of("box a 3 0", "ask a", "say a*a"))):
            before = copy.deepcopy((one, other))
            told, again = told_apart(one, other), told_apart(one, other)
            self.assertEqual(told, again)
            self.assertTrue(are_all_unlike(told, again, one))
            told[1].append("changed")
            self.assertEqual(told_apart(one, other), again)
            self.assertEqual((one, other), before)


if __name__ == "__main__":
    unittest.main()
