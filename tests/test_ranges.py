"""Promises 13 to 16: ranges, ways by ranges, right papers and what they show; promises 2 and 3 over them."""

import copy
import itertools
import unittest

from everyrow.flow import flow, statement_at
from everyrow.ranges import least_ranges, range_of, ranges_show, right_ranges, ways_from
from everyrow.runs import first_standing, step
from everyrow.targets import standings, targets
from everyrow.words import expression
from helper import are_all_unlike, inputs_to, made_programs, program_of, targets_met

ZERO = ("number", 0)
ONE = ("number", 1)
THREE = ([("a", 10, 0), ("b", 10, 0), ("c", 4, 0)], [])


# The rules once more: by trying all numbers of the ranges, not by their bounds.

def numbers_of(pair):
    return range(pair[0], pair[1] + 1)


def hull(numbers):
    return (min(numbers), max(numbers)) if numbers else None


def pairs_of(size):
    return [(low, high) for low in range(size) for high in range(low, size)]


def range_again(e, ranges):
    if e[0] == "number":
        return (e[1], e[1])
    if e[0] == "box":
        return ranges[e[1]]
    sign = {"+": int.__add__, "-": int.__sub__, "*": int.__mul__}[e[0]]
    left, right = range_again(e[1], ranges), range_again(e[2], ranges)
    return hull([sign(x, y) for x in numbers_of(left) for y in numbers_of(right)])


def side_again(statement, truth, names, ranges):
    named = dict(zip(names, ranges))
    left, right = range_again(statement[3], named), range_again(statement[4], named)
    found = [(x, y) for x in numbers_of(left) for y in numbers_of(right)
             if (x < y if statement[2] == "<" else x == y) is truth]
    if not found:
        return None
    for e, place in ((statement[3], 0), (statement[4], 1)):
        if e[0] == "box":
            having = hull([pair[place] for pair in found])
            named[e[1]] = (max(named[e[1]][0], having[0]), min(named[e[1]][1], having[1]))
    told = tuple(named[name] for name in names)
    return told if all(low <= high for low, high in told) else None


def ways_again(program, row, ranges):
    if row == 0:
        return []
    names = [box[0] for box in program[0]]
    sizes = {box[0]: box[1] for box in program[0]}
    statement = statement_at(program, row)
    ways = {told[0]: told[2] for told in flow(program)}[row]
    if statement[0] in ("if", "while", "must"):
        sides = [(way, side_again(statement, truth, names, ranges)) for way, truth in zip(ways, (True, False))]
        return [side for side in sides if side[1] is not None]
    named = dict(zip(names, ranges))
    if statement[0] == "ask":
        named[statement[2]] = (0, sizes[statement[2]] - 1)
    if statement[0] == "put":
        size = sizes[statement[2]]
        worths = list(numbers_of(range_again(statement[3], named)))
        rests = [n % size for n in worths]
        named[statement[2]] = (0, size - 1) if 0 in rests[1:] else hull(rests)
    return [(ways[0], tuple(named[name] for name in names))]


def holds_again(wide, narrow):
    return all(a <= c and d <= b for (a, b), (c, d) in zip(wide, narrow))


def right_again(program, paper):
    if any(one[0] >= other[0] for one, other in zip(paper, paper[1:])):
        return False
    first = first_standing(program)
    needed = [(first[0], tuple((n, n) for n in first[1]))]
    for row, ranges in paper:
        needed.extend(ways_again(program, row, ranges))
    return all(any(row == other and holds_again(wide, ranges) for other, wide in paper) for row, ranges in needed)


def least_again(program):
    first = first_standing(program)
    found = {first[0]: tuple((n, n) for n in first[1])}
    while True:
        before = dict(found)
        for row in before:
            for way, ranges in ways_again(program, row, before[row]):
                wide = found.get(way, ranges)
                found[way] = tuple((min(a, c), max(b, d)) for (a, b), (c, d) in zip(wide, ranges))
        if found == before:
            return sorted(found.items())


class TestRangeOf(unittest.TestCase):
    RANGES = ((2, 5), (0, 3), (1, 1))

    def told(self, word, pair):
        self.assertEqual(range_of(THREE, expression(word), self.RANGES), pair)

    def test_numbers_and_boxes(self):
        self.told("0", (0, 0))
        self.told("999", (999, 999))
        self.told("a", (2, 5))
        self.told("b", (0, 3))
        self.told("c", (1, 1))

    def test_sums_and_differences(self):
        self.told("a+b", (2, 8))
        self.told("a-b", (-1, 5))
        self.told("b-a", (-5, 1))
        self.told("1-a", (-4, -1))
        self.told("a-a", (-3, 3))
        self.told("a+b-c", (1, 7))

    def test_products(self):
        self.told("a*b", (0, 15))
        self.told("a*2", (4, 10))
        self.told("(0-a)*b", (-15, 0))
        self.told("(0-a)*(0-a)", (4, 25))
        self.told("(b-a)*(a-b)", (-25, 5))
        self.told("(b-2)*(a-4)", (-2, 4))
        self.told("(b-2)*(b-2)", (-2, 4))
        self.told("(b-2)*0", (0, 0))

    def test_every_pair_of_ranges_with_numbers_below_nought(self):
        pairs = [(low - 3, high - 3) for low, high in pairs_of(7)]
        for (a, b), (c, d) in itertools.product(pairs, repeat=2):
            ranges = ((a, b), (c, d), (0, 0))
            for sign in "+-*":
                e = (sign, ("box", "a"), ("box", "b"))
                self.assertEqual(range_of(THREE, e, ranges), range_again(e, {"a": (a, b), "b": (c, d)}))

    def test_no_boxes(self):
        self.assertEqual(range_of(([], []), expression("2*3-7"), ()), (-1, -1))

    def test_kinds(self):
        told = range_of(THREE, expression("a*b"), self.RANGES)
        self.assertEqual([type(told), type(told[0]), type(told[1])], [tuple, int, int])


class TestWays(unittest.TestCase):
    def ways(self, rows, row, ranges, told):
        self.assertEqual(ways_from(program_of(*rows), row, ranges), told)

    BOXES = ["box a 10 0", "box b 10 0"]

    def sides(self, condition, ranges, yes, no):
        """Of an if, a while and a must with the condition."""
        for word in ("if", "while"):
            rows = self.BOXES + [f"{word} {condition}", "say 1", "end", "say 2"]
            told = [(4, yes)] * (yes is not None) + [(6, no)] * (no is not None)
            self.ways(rows, 3, ranges, told)
        self.ways(self.BOXES + [f"must {condition}", "say 1"], 3, ranges, [(4, yes)] * (yes is not None))

    def test_ask(self):
        self.ways(["box a 7 0", "box b 3 0", "ask a", "stop"], 3, ((2, 4), (1, 1)), [(4, ((0, 6), (1, 1)))])
        self.ways(["box a 7 0", "box b 3 0", "ask b"], 3, ((2, 4), (1, 1)), [(0, ((2, 4), (0, 2)))])

    def test_a_put_within_one_whole(self):
        rows = ["box a 4 0", "box b 10 0", "put a b", "stop"]
        for pair, rest in (((0, 3), (0, 3)), ((4, 7), (0, 3)), ((5, 6), (1, 2)), ((8, 9), (0, 1)), ((3, 3), (3, 3))):
            self.ways(rows, 3, ((1, 2), pair), [(4, (rest, pair))])

    def test_a_put_that_leaves_one_whole(self):
        rows = ["box a 4 0", "box b 10 0", "put a b", "stop"]
        for pair in ((3, 4), (0, 4), (0, 9), (7, 8), (2, 9)):
            self.ways(rows, 3, ((1, 2), pair), [(4, ((0, 3), pair))])

    def test_a_put_of_numbers_below_nought(self):
        rows = ["box a 4 0", "box b 10 0", "put a 0-b", "stop"]
        for pair, rest in (((1, 4), (0, 3)), ((1, 1), (3, 3)), ((4, 5), (0, 3)), ((5, 7), (1, 3)), ((0, 0), (0, 0)),
                           ((0, 1), (0, 3)), ((8, 8), (0, 0)), ((9, 9), (3, 3)), ((8, 9), (0, 3))):
            self.ways(rows, 3, ((1, 2), pair), [(4, (rest, pair))])

    def test_a_put_of_its_own_box(self):
        self.ways(["box a 4 0", "put a a+1"], 2, ((0, 2),), [(0, ((1, 3),))])
        self.ways(["box a 4 0", "put a a+1"], 2, ((0, 3),), [(0, ((0, 3),))])
        self.ways(["box a 4 0", "put a a+1"], 2, ((3, 3),), [(0, ((0, 0),))])
        self.ways(["box a 4 0", "put a a-a"], 2, ((2, 2),), [(0, ((0, 0),))])
        self.ways(["box a 4 0", "put a a-a"], 2, ((2, 3),), [(0, ((0, 3),))])

    def test_say_and_stop(self):
        self.ways(["box a 4 0", "say a", "stop"], 2, ((1, 2),), [(3, ((1, 2),))])
        self.ways(["box a 4 0", "stop", "say a"], 2, ((1, 2),), [(0, ((1, 2),))])

    def test_row_0(self):
        self.ways(["box a 4 0", "say a"], 0, ((1, 2),), [])
        self.assertEqual(ways_from(([], []), 0, ()), [])

    def test_no_boxes(self):
        self.ways(["say 1", "say 2"], 1, (), [(2, ())])
        self.ways(["if 0 < 1", "end", "say 2"], 1, (), [(3, ())])
        self.ways(["while 0 = 1", "end", "say 2"], 1, (), [(3, ())])
        self.ways(["must 0 = 1", "say 2"], 1, (), [])

    def test_below_with_a_box_on_the_left(self):
        self.sides("a < 5", ((0, 9), (0, 0)), ((0, 4), (0, 0)), ((5, 9), (0, 0)))
        self.sides("a < 5", ((0, 4), (0, 0)), ((0, 4), (0, 0)), None)
        self.sides("a < 5", ((0, 5), (0, 0)), ((0, 4), (0, 0)), ((5, 5), (0, 0)))
        self.sides("a < 5", ((5, 9), (0, 0)), None, ((5, 9), (0, 0)))
        self.sides("a < 5", ((4, 9), (0, 0)), ((4, 4), (0, 0)), ((5, 9), (0, 0)))

    def test_below_with_a_box_on_the_right(self):
        self.sides("5 < a", ((0, 9), (0, 0)), ((6, 9), (0, 0)), ((0, 5), (0, 0)))
        self.sides("5 < a", ((6, 9), (0, 0)), ((6, 9), (0, 0)), None)
        self.sides("5 < a", ((5, 9), (0, 0)), ((6, 9), (0, 0)), ((5, 5), (0, 0)))
        self.sides("5 < a", ((0, 5), (0, 0)), None, ((0, 5), (0, 0)))

    def test_below_with_boxes_on_both_sides(self):
        self.sides("a < b", ((2, 8), (1, 5)), ((2, 4), (3, 5)), ((2, 8), (1, 5)))
        self.sides("a < b", ((2, 8), (4, 5)), ((2, 4), (4, 5)), ((4, 8), (4, 5)))
        self.sides("a < b", ((2, 3), (4, 5)), ((2, 3), (4, 5)), None)
        self.sides("a < b", ((5, 8), (4, 5)), None, ((5, 8), (4, 5)))
        self.sides("b < a", ((2, 5), (0, 9)), ((2, 5), (0, 4)), ((2, 5), (2, 9)))

    def test_below_with_the_same_box_twice(self):
        self.sides("a < a", ((0, 3), (0, 0)), ((1, 2), (0, 0)), ((0, 3), (0, 0)))
        self.sides("a < a", ((0, 2), (0, 0)), ((1, 1), (0, 0)), ((0, 2), (0, 0)))
        self.sides("a < a", ((0, 1), (0, 0)), None, ((0, 1), (0, 0)))
        self.sides("a < a", ((4, 4), (0, 0)), None, ((4, 4), (0, 0)))

    def test_equal_with_a_box_on_one_side(self):
        for condition in ("a = 5", "5 = a"):
            self.sides(condition, ((0, 9), (0, 0)), ((5, 5), (0, 0)), ((0, 9), (0, 0)))
            self.sides(condition, ((5, 9), (0, 0)), ((5, 5), (0, 0)), ((6, 9), (0, 0)))
            self.sides(condition, ((0, 5), (0, 0)), ((5, 5), (0, 0)), ((0, 4), (0, 0)))
            self.sides(condition, ((5, 5), (0, 0)), ((5, 5), (0, 0)), None)
            self.sides(condition, ((6, 9), (0, 0)), None, ((6, 9), (0, 0)))
            self.sides(condition, ((0, 4), (0, 0)), None, ((0, 4), (0, 0)))

    def test_equal_with_boxes_on_both_sides(self):
        self.sides("a = b", ((2, 8), (1, 5)), ((2, 5), (2, 5)), ((2, 8), (1, 5)))
        self.sides("a = b", ((2, 8), (2, 2)), ((2, 2), (2, 2)), ((3, 8), (2, 2)))
        self.sides("a = b", ((4, 4), (0, 4)), ((4, 4), (4, 4)), ((4, 4), (0, 3)))
        self.sides("a = b", ((4, 4), (5, 5)), None, ((4, 4), (5, 5)))
        self.sides("a = b", ((4, 4), (4, 4)), ((4, 4), (4, 4)), None)
        self.sides("a = b", ((0, 4), (5, 9)), None, ((0, 4), (5, 9)))
        self.sides("a = b", ((0, 5), (5, 9)), ((5, 5), (5, 5)), ((0, 5), (5, 9)))

    def test_equal_with_the_same_box_twice(self):
        self.sides("a = a", ((0, 3), (0, 0)), ((0, 3), (0, 0)), ((0, 3), (0, 0)))
        self.sides("a = a", ((3, 3), (0, 0)), ((3, 3), (0, 0)), None)

    def test_expressions_are_not_narrowed(self):
        self.sides("a+0 < 5", ((0, 9), (0, 0)), ((0, 9), (0, 0)), ((0, 9), (0, 0)))
        self.sides("a*1 = 5", ((5, 9), (0, 0)), ((5, 9), (0, 0)), ((5, 9), (0, 0)))
        self.sides("a < b+1", ((2, 9), (0, 4)), ((2, 4), (0, 4)), ((2, 9), (0, 4)))
        self.sides("a-9 < b-a", ((0, 9), (0, 0)), ((0, 9), (0, 0)), ((0, 9), (0, 0)))

    def test_a_box_in_brackets_is_just_a_box(self):
        self.sides("(a) < ((5))", ((0, 9), (0, 0)), ((0, 4), (0, 0)), ((5, 9), (0, 0)))

    def test_both_sides_of_a_condition_without_boxes(self):
        self.sides("0 < 1", ((0, 9), (3, 4)), ((0, 9), (3, 4)), None)
        self.sides("1 < 1", ((0, 9), (3, 4)), None, ((0, 9), (3, 4)))
        self.sides("1 = 1", ((0, 9), (3, 4)), ((0, 9), (3, 4)), None)
        self.sides("1 = 2", ((0, 9), (3, 4)), None, ((0, 9), (3, 4)))

    def test_both_ways_to_one_row(self):
        self.ways(["box a 4 0", "if a < 2", "end"], 2, ((0, 3),), [(0, ((0, 1),)), (0, ((2, 3),))])
        self.ways(["box a 4 0", "while a < 2", "end"], 2, ((0, 3),), [(2, ((0, 1),)), (0, ((2, 3),))])

    def test_rows_with_gaps(self):
        body = [("if", 7, "<", ("box", "a"), ONE, [("stop", 70)], []), ("stop", 700)]
        self.assertEqual(ways_from(([("a", 3, 0)], body), 7, ((0, 2),)), [(70, ((0, 0),)), (700, ((1, 2),))])

    def test_every_condition_of_two_boxes_by_all_ranges(self):
        parts = ("a", "b", "2", "a-b")
        for sign, left, right in itertools.product("<=", parts, parts):
            program = program_of("box a 4 0", "box b 4 0", f"while {left} {sign} {right}", "end")
            for ranges in itertools.product(pairs_of(4), repeat=2):
                self.assertEqual(ways_from(program, 3, ranges), ways_again(program, 3, ranges))

    def test_every_put_by_all_ranges(self):
        for size, e in itertools.product((2, 3, 5), ("a", "b-a", "0-a*b", "a*3+b", "b-7")):
            program = program_of(f"box a {size} 0", "box b 6 0", f"put a {e}")
            for ranges in itertools.product(pairs_of(size), pairs_of(6)):
                self.assertEqual(ways_from(program, 3, ranges), ways_again(program, 3, ranges))

    def test_no_step_leaves_the_ways(self):
        for program in made_programs(60, 7, sizes=(2, 3)):
            every = list(itertools.product(*[pairs_of(box[1]) for box in program[0]]))
            for row, word, ways in flow(program):
                for ranges in every:
                    told = ways_from(program, row, ranges)
                    self.assertEqual(told, ways_again(program, row, ranges))
                    for values in itertools.product(*[numbers_of(pair) for pair in ranges]):
                        for figure in range(10) if word == "ask" else (None,):
                            behind = step(program, (row, values), figure)[0]
                            if behind is not None:
                                point = tuple((n, n) for n in behind[1])
                                self.assertTrue(any(way == behind[0] and holds_again(wide, point)
                                                    for way, wide in told))

    def test_told_lists_are_the_askers_own(self):
        program = program_of("box a 4 0", "while a < 2", "ask a", "end")
        before, ranges = copy.deepcopy(program), ((0, 3),)
        for row in (0, 2, 3):
            told, again = ways_from(program, row, ranges), ways_from(program, row, ranges)
            self.assertIs(type(told), list)
            self.assertTrue(are_all_unlike(told, again, program))
            told.append("changed")
            self.assertEqual(ways_from(program, row, ranges), again)
        self.assertEqual((program, ranges), (before, ((0, 3),)))


class TestLeastRanges(unittest.TestCase):
    def least(self, rows, told):
        self.assertEqual(least_ranges(program_of(*rows)), told)

    def test_no_statements(self):
        self.assertEqual(least_ranges(([], [])), [(0, ())])
        self.least(["box a 4 3", "box b 3 0"], [(0, ((3, 3), (0, 0)))])

    def test_no_boxes(self):
        self.least(["if 0 < 1", "say 1", "else", "say 2", "end"], [(0, ()), (1, ()), (2, ())])

    def test_plain_statements(self):
        self.least(["box a 4 1", "say a", "put a a+1", "ask a", "stop"],
                   [(0, ((0, 3),)), (2, ((1, 1),)), (3, ((1, 1),)), (4, ((2, 2),)), (5, ((0, 3),))])

    def test_a_row_without_an_end(self):
        self.least(["while 0 < 1", "end", "say 1"], [(1, ())])
        self.least(["must 0 = 1", "say 1"], [(1, ())])

    def test_loops(self):
        self.least(["box a 10 0", "while a < 5", "put a a+1", "end", "say a"],
                   [(0, ((5, 5),)), (2, ((0, 5),)), (3, ((0, 4),)), (5, ((5, 5),))])
        self.least(["box a 10 0", "while a = a", "put a a+1", "end", "say a"],
                   [(0, ((0, 9),)), (2, ((0, 9),)), (3, ((0, 9),)), (5, ((0, 9),))])
        self.least(["box a 10 9", "while 3 < a", "put a a-1", "end"],
                   [(0, ((3, 3),)), (2, ((3, 9),)), (3, ((4, 9),))])

    def test_loops_within_loops(self):
        self.least(["box a 10 0", "box b 10 0", "while a < 3", "put b 0", "while b < 4", "put b b+1", "end",
                    "put a a+1", "end", "say b"],
                   [(0, ((3, 3), (0, 4))), (3, ((0, 3), (0, 4))), (4, ((0, 2), (0, 4))), (5, ((0, 2), (0, 4))),
                    (6, ((0, 2), (0, 3))), (8, ((0, 2), (4, 4))), (10, ((3, 3), (0, 4)))])

    def test_ways_that_come_together(self):
        self.least(["box a 10 0", "box b 10 0", "ask a", "if a < 3", "put b 2", "else", "put b 7", "end", "say b"],
                   [(0, ((0, 9), (2, 7))), (3, ((0, 0), (0, 0))), (4, ((0, 9), (0, 0))), (5, ((0, 2), (0, 0))),
                    (7, ((3, 9), (0, 0))), (9, ((0, 9), (2, 7)))])

    def test_musts_narrow(self):
        self.least(["box a 10 0", "ask a", "must a < 4", "must 1 < a", "say a"],
                   [(0, ((2, 3),)), (2, ((0, 0),)), (3, ((0, 9),)), (4, ((0, 3),)), (5, ((2, 3),))])

    def test_rows_with_gaps(self):
        body = [("ask", 50, "a"), ("while", 500, "<", ("box", "a"), ONE, [])]
        self.assertEqual(least_ranges(([("a", 3, 1)], body)), [(0, ((1, 2),)), (50, ((1, 1),)), (500, ((0, 2),))])

    def test_many_programs_once_more(self):
        for program in made_programs(300, 8, most_boxes=3):
            told = least_ranges(program)
            self.assertEqual(told, least_again(program), program)
            self.assertIs(right_ranges(program, told), True)

    def test_least_of_all_right_papers(self):
        for program in made_programs(40, 9, sizes=(2, 3), most_boxes=1, most_statements=2, deepest=1):
            rows = [0] + [told[0] for told in flow(program)]
            if len(rows) > 4:
                continue
            rights = [paper for paper in all_papers(program, rows) if right_ranges(program, paper)]
            told = least_ranges(program)
            self.assertIn(told, rights)
            for paper in rights:
                for row, ranges in told:
                    self.assertIn(row, dict(paper))
                    self.assertTrue(holds_again(dict(paper)[row], ranges))

    def test_no_run_leaves_them(self):
        for program in made_programs(200, 10):
            least = dict(least_ranges(program))
            for row, values in standings(program):
                self.assertTrue(holds_again(least[row], tuple((n, n) for n in values)))

    def test_told_lists_are_the_askers_own(self):
        program = program_of("box a 10 0", "while a < 5", "put a a+1", "end", "say a")
        before = copy.deepcopy(program)
        told, again = least_ranges(program), least_ranges(program)
        self.assertEqual([type(told), type(told[0]), type(told[0][1]), type(told[0][1][0])], [list] + [tuple] * 3)
        self.assertTrue(are_all_unlike(told, again, program))
        told.clear()
        self.assertEqual(least_ranges(program), again)
        self.assertEqual(program, before)


def all_papers(program, rows):
    every = list(itertools.product(*[pairs_of(box[1]) for box in program[0]]))
    for choice in itertools.product([None] + every, repeat=len(rows)):
        yield [(row, ranges) for row, ranges in zip(rows, choice) if ranges is not None]


class TestRightRanges(unittest.TestCase):
    LOOP = program_of("box a 10 0", "while a < 5", "put a a+1", "end", "say a")
    LEAST = [(0, ((5, 5),)), (2, ((0, 5),)), (3, ((0, 4),)), (5, ((5, 5),))]

    def right(self, paper, truth):
        self.assertIs(right_ranges(self.LOOP, paper), truth)

    def test_the_least_ones_are_right(self):
        self.right(self.LEAST, True)

    def test_wider_ones_are_right(self):
        self.right([(0, ((0, 9),)), (2, ((0, 9),)), (3, ((0, 9),)), (5, ((0, 9),))], True)
        self.right([(0, ((4, 9),)), (2, ((0, 6),)), (3, ((0, 4),)), (5, ((5, 7),))], True)

    def test_one_that_is_wider_in_one_place_alone(self):
        self.right([(0, ((5, 5),)), (2, ((0, 6),)), (3, ((0, 4),)), (5, ((5, 5),))], False)
        self.right([(0, ((5, 5),)), (2, ((0, 5),)), (3, ((0, 4),)), (5, ((4, 5),))], False)
        self.right([(0, ((1, 8),)), (2, ((0, 5),)), (3, ((0, 4),)), (5, ((5, 5),))], True)

    def test_one_that_lacks_a_row(self):
        for place in range(4):
            self.right(self.LEAST[:place] + self.LEAST[place + 1:], False)
        self.right([], False)
        self.right([(2, ((0, 5),))], False)

    def test_one_that_is_too_narrow(self):
        for place, ranges in ((1, ((1, 5),)), (1, ((0, 4),)), (2, ((0, 3),)), (2, ((1, 4),)), (0, ((4, 4),)),
                              (3, ((6, 6),))):
            paper = list(self.LEAST)
            paper[place] = (paper[place][0], ranges)
            self.right(paper, False)

    def test_one_that_does_not_rise(self):
        for order in itertools.permutations(self.LEAST):
            self.right(list(order), list(order) == self.LEAST)

    def test_one_with_a_row_twice(self):
        for place in range(4):
            self.right(self.LEAST[:place + 1] + self.LEAST[place:], False)
        self.right(self.LEAST[:3] + [(5, ((0, 9),)), (5, ((5, 5),))], False)

    def test_one_without_the_first_row(self):
        program = program_of("box a 4 1", "ask a", "say a")
        self.assertIs(right_ranges(program, [(0, ((0, 3),)), (3, ((0, 3),))]), False)
        self.assertIs(right_ranges(program, [(0, ((0, 3),)), (2, ((1, 1),)), (3, ((0, 3),))]), True)
        self.assertIs(right_ranges(program, [(0, ((0, 3),))]), False)

    def test_one_whose_first_row_has_not_the_firsts(self):
        program = program_of("box a 4 1", "box b 4 2", "stop")
        for ranges, truth in ((((1, 1), (2, 2)), True), (((0, 3), (0, 3)), True), (((2, 3), (2, 2)), False),
                              (((0, 0), (2, 2)), False), (((1, 1), (3, 3)), False), (((1, 1), (0, 1)), False)):
            self.assertIs(right_ranges(program, [(0, ((0, 3), (0, 3))), (3, ranges)]), truth)

    def test_rows_that_are_never_begun_may_be_in_it(self):
        program = program_of("box a 4 0", "stop", "say a")
        self.assertIs(right_ranges(program, [(0, ((0, 0),)), (2, ((0, 0),)), (3, ((0, 0),))]), True)
        self.assertIs(right_ranges(program, [(0, ((0, 0),)), (2, ((0, 0),)), (3, ((0, 1),))]), False)

    def test_no_statements(self):
        self.assertIs(right_ranges(([], []), [(0, ())]), True)
        self.assertIs(right_ranges(([], []), []), False)
        self.assertIs(right_ranges(([("a", 4, 2)], []), [(0, ((1, 2),))]), True)
        self.assertIs(right_ranges(([("a", 4, 2)], []), [(0, ((3, 3),))]), False)

    def test_every_paper_of_small_programs_once_more(self):
        for program in made_programs(25, 11, sizes=(2, 3), most_boxes=1, most_statements=2, deepest=1):
            rows = [0] + [told[0] for told in flow(program)]
            for paper in all_papers(program, rows[:4]):
                self.assertIs(right_ranges(program, paper), right_again(program, paper))

    def test_what_is_handed_in_stays_as_it_was(self):
        paper, program = list(self.LEAST), copy.deepcopy(self.LOOP)
        for target in targets(program):
            ranges_show(program, target, paper)
            right_ranges(program, paper)
        self.assertEqual((paper, program), (self.LEAST, self.LOOP))


class TestRangesShow(unittest.TestCase):
    PROGRAM = program_of("box a 10 0", "ask a", "must a < 4", "if a = 5", "say 1", "end", "while 3 < a", "say 2", "end",
                         "must a < 3", "must a < 3")

    def shown(self, program, never):
        paper = least_ranges(program)
        for target in targets(program):
            self.assertIs(ranges_show(program, target, paper), target in never, target)

    def test_each_kind_of_target(self):
        self.shown(self.PROGRAM, [("side", 4, True), ("row", 5), ("side", 7, True), ("row", 8), ("must", 11)])

    def test_sides_where_the_condition_never_fails(self):
        self.shown(program_of("box a 10 0", "ask a", "if a < 10", "say 1", "else", "say 2", "end", "while a = a+0",
                              "end"),
                   [("side", 3, False), ("row", 6)])
        self.shown(program_of("while 0 < 1", "end", "say 2"), [("side", 1, False), ("row", 3), ("end",)])

    def test_the_end(self):
        self.shown(([], []), [])
        self.shown(program_of("stop"), [])
        self.shown(program_of("must 0 = 1"), [("end",)])

    def test_a_must_that_is_never_come_to(self):
        self.shown(program_of("stop", "must 0 = 1"), [("row", 2), ("must", 2)])

    def test_wide_papers_show_less(self):
        wide = [(row, ((0, 9),)) for row in (0, 2, 3, 4, 5, 7, 8, 10, 11)]
        self.assertIs(right_ranges(self.PROGRAM, wide), True)
        for target in targets(self.PROGRAM):
            self.assertIs(ranges_show(self.PROGRAM, target, wide), False)

    def test_papers_that_are_not_right_show_nothing(self):
        least = least_ranges(self.PROGRAM)
        for place in range(len(least)):
            paper = least[:place] + least[place + 1:]
            for target in targets(self.PROGRAM):
                self.assertIs(ranges_show(self.PROGRAM, target, paper), False)
                self.assertIs(ranges_show(self.PROGRAM, target, least[::-1]), False)
                self.assertIs(ranges_show(self.PROGRAM, target, []), False)

    def test_no_paper_shows_what_is_met(self):
        for program in made_programs(25, 12, sizes=(2, 3), most_boxes=1, most_statements=2, deepest=1):
            rows = [0] + [told[0] for told in flow(program)]
            met = set().union(*[targets_met(program, figures) for figures in inputs_to(2)])
            for paper in all_papers(program, rows[:4]):
                for target in met:
                    self.assertIs(ranges_show(program, target, paper), False)

    def test_what_the_ways_say_of_the_sides(self):
        for program in made_programs(150, 13):
            least = dict(least_ranges(program))
            for target in targets(program):
                row = target[1] if len(target) > 1 else 0
                never = row not in least
                if not never and target[0] in ("side", "must"):
                    truth = target[2] if target[0] == "side" else False
                    names = [box[0] for box in program[0]]
                    never = side_again(statement_at(program, row), truth, names, least[row]) is None
                self.assertIs(ranges_show(program, target, sorted(least.items())), never)


if __name__ == "__main__":
    unittest.main()
