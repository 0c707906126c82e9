"""Promise 20: the changes of a program, in their order; promise 2 over them."""

import copy
import unittest

from everyrow.changes import changes
from everyrow.flow import flow
from everyrow.reader import read
from everyrow.runs import run
from everyrow.words import expression
from helper import are_all_unlike, lists_in, made_programs, program_of

A = ("box", "a")
BOX = ("a", 4, 0)


def number(n):
    return ("number", n)


# The changes once more: by the places of a program at which something else comes to stand.

def parts_of(e, place):
    """Each part of an expression with its place, as they stand in the text: (place, part, whether a sign)."""
    if e[0] in ("number", "box"):
        return [(place, e, False)]
    return parts_of(e[1], place + (1,)) + [(place + (0,), e[0], True)] + parts_of(e[2], place + (2,))


def statements_with_places(body, place):
    for k, statement in enumerate(body):
        yield place + (k,), statement
        for m, part in enumerate(statement):
            if isinstance(part, list):
                yield from statements_with_places(part, place + (k, m))


def with_other(value, place, other):
    """The value with something else at its place; nothing else there where other is None."""
    if not place:
        return other
    parts = [part if k != place[0] else with_other(part, place[1:], other) for k, part in enumerate(value)]
    if len(place) == 1 and other is None:
        parts.pop(place[0])
    return parts if isinstance(value, list) else tuple(parts)


def others_again(statement):
    """Each place in a statement with what comes to stand there."""
    where = {"put": [3], "say": [2], "must": [3, 4], "if": [3, 4], "while": [3, 4]}.get(statement[0], [])
    parts = [part for k in where for part in parts_of(statement[k], (k,))]
    for place, part, is_sign in parts:
        if not is_sign and part[0] == "number":
            yield from ((place + (1,), n) for n in (part[1] + 1, part[1] - 1) if 0 <= n <= 999)
    for place, part, is_sign in parts:
        if is_sign:
            yield place, {"+": "-", "-": "+", "*": "+"}[part]
    if len(where) == 2:
        yield (2,), "=" if statement[2] == "<" else "<"


def changes_again(program):
    for place, statement in statements_with_places(program[1], (1,)):
        for where, other in others_again(statement):
            yield with_other(program, place + where, other)
        if statement[0] in ("if", "while"):
            exchanged = with_other(with_other(statement, (3,), statement[4]), (4,), statement[3])
            yield with_other(program, place, exchanged)
        if statement[0] in ("put", "say"):
            yield with_other(program, place, None)


class TestChanges(unittest.TestCase):
    def changed(self, rows, *others):
        """The changes are the programs in which these rows stand in the place of the last one, None for no row."""
        told = changes(program_of(*rows))
        boxes, body = program_of(*rows)
        wanted = []
        for other in others:
            changed = program_of(*rows[:-1], other)[1] if other is not None else program_of(*rows)[1][:-1]
            wanted.append((boxes, changed))
        self.assertEqual(told, wanted)

    def test_none_without_statements(self):
        self.assertEqual(changes(([], [])), [])
        self.assertEqual(changes(([BOX], [])), [])

    def test_none_of_ask_and_stop(self):
        self.assertEqual(changes(program_of("box a 4 0", "ask a", "stop")), [])

    def test_numbers_one_more_then_one_less(self):
        self.changed(["say 5"], "say 6", "say 4", None)
        self.changed(["say 0"], "say 1", None)
        self.changed(["say 1"], "say 2", "say 0", None)
        self.changed(["say 998"], "say 999", "say 997", None)
        self.changed(["say 999"], "say 998", None)

    def test_a_number_that_comes_to_have_more_figures(self):
        self.changed(["say 9"], "say 10", "say 8", None)
        self.changed(["say 99"], "say 100", "say 98", None)

    def test_a_box_is_not_changed(self):
        self.changed(["box a 4 0", "say a"], None)
        self.changed(["box a 4 0", "put a a"], None)

    def test_signs(self):
        self.changed(["box a 4 0", "say a+a"], "say a-a", None)
        self.changed(["box a 4 0", "say a-a"], "say a+a", None)
        self.changed(["box a 4 0", "say a*a"], "say a+a", None)

    def test_numbers_ahead_of_signs_both_from_left_to_right(self):
        self.changed(["say 1+2*3-4"], "say 2+2*3-4", "say 0+2*3-4", "say 1+3*3-4", "say 1+1*3-4", "say 1+2*4-4",
                     "say 1+2*2-4", "say 1+2*3-5", "say 1+2*3-3", "say 1-2*3-4", "say 1+(2+3)-4", "say 1+2*3+4", None)

    def test_signs_stay_where_they_are_in_the_expression(self):
        self.changed(["box a 4 0", "say a-a*a"], "say a+a*a", "say a-(a+a)", None)
        self.changed(["box a 4 0", "say a*a*a"], "say (a+a)*a", "say a*a+a", None)
        self.changed(["box a 4 0", "say a*(a-a)"], "say a+(a-a)", "say a*(a+a)", None)
        self.changed(["box a 4 0", "say (a+a)*(a-a)"], "say (a-a)*(a-a)", "say a+a+(a-a)", "say (a+a)*(a+a)", None)

    def test_a_put(self):
        self.changed(["box a 4 0", "put a a+1"], "put a a+2", "put a a+0", "put a a-1", None)

    def test_a_must_has_its_sign_exchanged_but_not_its_sides(self):
        self.changed(["box a 4 0", "must a < 3"], "must a < 4", "must a < 2", "must a = 3")
        self.changed(["box a 4 0", "must 0 = a+2"], "must 1 = a+2", "must 0 = a+3", "must 0 = a+1", "must 0 = a-2",
                     "must 0 < a+2")

    def conditions_of(self, *rows):
        return [body[-1][2:5] for boxes, body in changes(program_of("box a 4 0", *rows))]

    def test_if_and_while(self):
        for word in ("if", "while"):
            two, five = number(2), number(5)
            self.assertEqual(self.conditions_of(f"{word} a+2 < 5", "end"), [
                ("<", ("+", A, number(3)), five), ("<", ("+", A, number(1)), five),
                ("<", ("+", A, two), number(6)), ("<", ("+", A, two), number(4)),
                ("<", ("-", A, two), five), ("=", ("+", A, two), five), ("<", five, ("+", A, two))])
            self.assertEqual(self.conditions_of(f"{word} a = a*a", "end"), [
                ("=", A, ("+", A, A)), ("<", A, ("*", A, A)), ("=", ("*", A, A), A)])

    def test_signs_left_and_right_of_the_condition(self):
        self.assertEqual(self.conditions_of("if a+a < a-a", "end"), [
            ("<", ("-", A, A), ("-", A, A)), ("<", ("+", A, A), ("+", A, A)),
            ("=", ("+", A, A), ("-", A, A)), ("<", ("-", A, A), ("+", A, A))])

    def test_left_and_right_alike_are_exchanged_too(self):
        self.assertEqual(self.conditions_of("if a = a", "end"), [("<", A, A), ("=", A, A)])
        self.assertEqual(self.conditions_of("while a < a", "end"), [("=", A, A), ("<", A, A)])

    def test_statement_by_statement_within_bodies_too(self):
        rows = ["box a 4 0", "if a < a", "say a", "while a = a", "put a a", "end", "else", "must a < a", "end", "say a"]
        program = program_of(*rows)
        told = changes(program)
        self.assertEqual(told, list(changes_again(program)))
        self.assertEqual(len(told), 2 + 1 + 2 + 1 + 1 + 1)
        rows_left = [[row for row, word, ways in flow(changed)] for changed in told]
        every = [2, 3, 4, 5, 8, 10]
        self.assertEqual(rows_left, [
            every, every, [2, 4, 5, 8, 10], every, every, [2, 3, 4, 8, 10], every, [2, 3, 4, 5, 8]])

    def test_bodies_stay_beside_a_changed_condition(self):
        program = program_of("box a 4 0", "if a < a", "say a", "else", "ask a", "end")
        told = changes(program)
        self.assertEqual(told[:2], [
            ([BOX], [("if", 2, "=", A, A, [("say", 3, A)], [("ask", 5, "a")])]),
            ([BOX], [("if", 2, "<", A, A, [("say", 3, A)], [("ask", 5, "a")])])])
        self.assertEqual(told[2:], [([BOX], [("if", 2, "<", A, A, [], [("ask", 5, "a")])])])

    def test_a_body_may_be_left_without_statements(self):
        program = program_of("while 0 < 1", "say 1", "end")
        self.assertEqual(changes(program)[-1], ([], [("while", 1, "<", number(0), number(1), [])]))
        self.assertEqual(run(changes(program)[-1], [], 3), ([1, 1, 1], [], ("on",)))
        self.assertEqual(changes(program_of("say 1"))[-1], ([], []))

    def test_rows_keep_their_numbers(self):
        body = [("say", 7, A), ("say", 500, A), ("say", 999, A)]
        self.assertEqual(changes(([BOX], body)), [
            ([BOX], [body[1], body[2]]), ([BOX], [body[0], body[2]]), ([BOX], [body[0], body[1]])])

    def test_an_expression_may_come_to_be_too_long_for_a_text(self):
        told = changes(program_of("say 99" + "+9" * 29))
        self.assertEqual(len(told), 30 * 2 + 29 + 1)
        self.assertEqual([run(changed, [], 5)[1] for changed in told[:3]], [[361], [359], [361]])
        for changed in told:
            self.assertEqual(changes(changed), list(changes_again(changed)))

    def test_changes_of_changes(self):
        for program in made_programs(20, 31, most_statements=2):
            for changed in changes(program):
                self.assertEqual(changes(changed), list(changes_again(changed)))

    def test_many_programs_once_more(self):
        for program in made_programs(200, 32) + made_programs(50, 33, numbers=1000) + made_programs(50, 34, deepest=5):
            self.assertEqual(changes(program), list(changes_again(program)))

    def test_boxes_stay(self):
        boxes = [("a", 4, 0), ("b", 2, 1)]
        for changed in changes((boxes, [("say", 1, number(3))])):
            self.assertEqual(changed[0], boxes)

    def test_kinds(self):
        for program in made_programs(40, 35):
            told = changes(program)
            self.assertIs(type(told), list)
            for changed in told:
                self.assertEqual([type(changed), len(changed)], [tuple, 2])
                self.assertEqual([type(part) for part in changed], [list, list])
                for body in lists_in(changed[1]):
                    self.assertTrue(all(type(statement) is tuple for statement in body))

    def test_nothing_is_shared(self):
        empty = []
        shared = ([], [("if", 1, "<", number(0), number(1), empty, empty), ("while", 2, "=", A, A, empty)])
        for program in made_programs(100, 36) + [shared]:
            before = copy.deepcopy(program)
            told, again = changes(program), changes(program)
            self.assertTrue(are_all_unlike(told, again))
            own = {id(one) for one in lists_in(program)}
            self.assertFalse([one for one in lists_in(told) if id(one) in own])
            self.assertEqual(program, before)

    def test_told_lists_changed_and_asked_again(self):
        program = program_of("box a 4 0", "if a < 3", "say 1", "else", "while a = a", "put a 2", "end", "end")
        before = copy.deepcopy(program)
        told, again = changes(program), changes(program)
        for one in lists_in(told):
            one.append("changed")
        self.assertEqual(program, before)
        self.assertEqual(changes(program), again)

    def test_texts_read_again(self):
        self.assertEqual(changes(read("say 2"))[0], read("say 3"))
        self.assertEqual(changes(read("say 2*3"))[4], ([], [("say", 1, expression("2+3"))]))


if __name__ == "__main__":
    unittest.main()
