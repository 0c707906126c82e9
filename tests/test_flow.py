"""Promise 8: the rows of a program and the ways of each; promise 2 over them."""

import copy
import unittest

from everyrow.flow import flow, statement_at
from everyrow.reader import read
from helper import lists_in

ZERO = ("number", 0)
ONE = ("number", 1)
ROWS = {"s": "say 1", "t": "stop", "m": "must 0 < 1", "i": "if 0 < 1", "w": "while 0 < 1", "l": "else", "e": "end"}
WORDS = {"s": "say", "t": "stop", "m": "must", "i": "if", "w": "while"}


def program_of(letters):
    return read("\n".join([ROWS[letter] for letter in letters]))


def whole_texts(most, kinds, letters="", nest=""):
    """All texts of at most so many rows whose bodies are ended, each row a letter."""
    if letters and not nest:
        yield letters
    spare = most - len(letters) - len(nest)
    if spare >= 1:
        for kind in kinds:
            yield from whole_texts(most, kinds, letters + kind, nest)
        if nest.endswith("i"):
            yield from whole_texts(most, kinds, letters + "l", nest[:-1] + "l")
    if spare >= 2 and len(nest) < 5:
        for kind in "iw":
            yield from whole_texts(most, kinds, letters + kind, nest + kind)
    if nest:
        yield from whole_texts(most, kinds, letters + "e", nest[:-1])


def by_rows(letters):
    """The flow once more, by walking the rows of the text and not the bodies of the program."""
    partner, other = partners(letters)
    told = []
    for place, letter in enumerate(letters):
        if letter in "le":
            continue
        ways = (come_to(letters, place + 1, partner),)
        if letter == "t":
            ways = (0,)
        if letter in "iw":
            ways = ways + (come_to(letters, other[place] + 1, partner),)
        told.append((place + 1, WORDS[letter], ways))
    return told


def partners(letters):
    """For each else and end the place of what it leads on to; for each if and while where its no-side goes past."""
    partner, other, nest = {}, {}, []
    for place, letter in enumerate(letters):
        if letter in "iw":
            nest.append([place])
        elif letter == "l":
            nest[-1].append(place)
        elif letter == "e":
            places = nest.pop()
            other[places[0]] = places[-1] if len(places) == 2 else place
            partner[place] = places[0] if letters[places[0]] == "w" else place + 1
            if len(places) == 2:
                partner[places[1]] = place + 1
    return partner, other


def come_to(letters, place, partner):
    while place < len(letters) and letters[place] in "le":
        place = partner[place]
    return place + 1 if place < len(letters) else 0


def statements_in(value):
    found = []
    for statement in value:
        found.append(statement)
        for part in statement:
            if isinstance(part, list):
                found.extend(statements_in(part))
    return found


class TestFlow(unittest.TestCase):
    def flows(self, text, told):
        self.assertEqual(flow(read("\n".join(text))), told)

    def test_no_statements(self):
        self.assertEqual(flow(([], [])), [])
        self.assertEqual(flow(([("a", 2, 0)], [])), [])

    def test_plain_statements(self):
        self.flows(["box a 4 0", "ask a", "put a 1", "say a", "must a < 1", "ask a"],
                   [(2, "ask", (3,)), (3, "put", (4,)), (4, "say", (5,)), (5, "must", (6,)), (6, "ask", (0,))])

    def test_each_kind_of_statement_as_the_last(self):
        for row in ("ask a", "put a 1", "say a", "must a = 1", "stop"):
            self.flows(["box a 4 0", row], [(2, row.split(" ")[0], (0,))])

    def test_stop_leads_to_the_end(self):
        self.flows(["stop", "say 1"], [(1, "stop", (0,)), (2, "say", (0,))])
        self.flows(["while 0 < 1", "stop", "say 1", "end", "say 1"],
                   [(1, "while", (2, 5)), (2, "stop", (0,)), (3, "say", (1,)), (5, "say", (0,))])

    def test_if_without_else(self):
        self.flows(["if 0 < 1", "say 1", "say 2", "end", "say 3"],
                   [(1, "if", (2, 5)), (2, "say", (3,)), (3, "say", (5,)), (5, "say", (0,))])
        self.flows(["if 0 < 1", "say 1", "end"], [(1, "if", (2, 0)), (2, "say", (0,))])

    def test_if_with_else(self):
        self.flows(["if 0 < 1", "say 1", "else", "say 2", "say 3", "end", "say 4"],
                   [(1, "if", (2, 4)), (2, "say", (7,)), (4, "say", (5,)), (5, "say", (7,)), (7, "say", (0,))])

    def test_while(self):
        self.flows(["while 0 < 1", "say 1", "say 2", "end", "say 3"],
                   [(1, "while", (2, 5)), (2, "say", (3,)), (3, "say", (1,)), (5, "say", (0,))])
        self.flows(["while 0 < 1", "must 0 < 1", "end"], [(1, "while", (2, 0)), (2, "must", (1,))])

    def test_bodies_without_statements(self):
        self.flows(["if 0 < 1", "end", "say 1"], [(1, "if", (3, 3)), (3, "say", (0,))])
        self.flows(["if 0 < 1", "else", "end"], [(1, "if", (0, 0))])
        self.flows(["if 0 < 1", "else", "say 1", "end"], [(1, "if", (0, 3)), (3, "say", (0,))])
        self.flows(["while 0 < 1", "end", "say 1"], [(1, "while", (1, 3)), (3, "say", (0,))])
        self.flows(["while 0 < 1", "if 0 < 1", "end", "end"], [(1, "while", (2, 0)), (2, "if", (1, 1))])
        self.flows(["if 0 < 1", "while 0 < 1", "end", "end", "stop"],
                   [(1, "if", (2, 5)), (2, "while", (2, 5)), (5, "stop", (0,))])

    def test_last_ones_in_bodies_within_bodies(self):
        self.flows(["while 0 < 1", "if 0 < 1", "if 0 < 1", "say 1", "else", "say 2", "end", "end", "end", "say 3"],
                   [(1, "while", (2, 10)), (2, "if", (3, 1)), (3, "if", (4, 6)), (4, "say", (1,)), (6, "say", (1,)),
                    (10, "say", (0,))])
        self.flows(["while 0 < 1", "while 1 < 2", "say 1", "end", "end", "say 3"],
                   [(1, "while", (2, 6)), (2, "while", (3, 1)), (3, "say", (2,)), (6, "say", (0,))])
        self.flows(["if 0 < 1", "if 0 < 1", "say 1", "end", "else", "if 0 < 1", "say 2", "end", "end", "say 3"],
                   [(1, "if", (2, 6)), (2, "if", (3, 10)), (3, "say", (10,)), (6, "if", (7, 10)), (7, "say", (10,)),
                    (10, "say", (0,))])

    def test_rows_with_gaps(self):
        body = [("say", 7, ONE), ("while", 20, "<", ZERO, ONE, [("if", 300, "=", ZERO, ONE, [], [("stop", 301)])]),
                ("must", 999, "=", ZERO, ZERO)]
        self.assertEqual(flow(([], body)), [(7, "say", (20,)), (20, "while", (300, 999)), (300, "if", (20, 301)),
                                            (301, "stop", (0,)), (999, "must", (0,))])

    def test_deeper_bodies_than_read_ones(self):
        body = [("say", 31, ONE)]
        for k in range(30, 0, -1):
            body = [("while", k, "<", ZERO, ONE, body)]
        told = [(1, "while", (2, 0))] + [(k, "while", (k + 1, k - 1)) for k in range(2, 31)] + [(31, "say", (30,))]
        self.assertEqual(flow(([], body)), told)

    def test_every_program_of_few_rows(self):
        texts = list(whole_texts(7, "st")) + list(whole_texts(9, "m"))
        self.assertGreater(len(texts), 5000)
        for letters in texts:
            self.assertEqual(flow(program_of(letters)), by_rows(letters), letters)

    def test_rows_rise(self):
        for letters in whole_texts(8, "s"):
            rows = [told[0] for told in flow(program_of(letters))]
            self.assertEqual(rows, [k + 1 for k, letter in enumerate(letters) if letter not in "le"])

    def test_kinds_of_all_that_is_told(self):
        told = flow(program_of("isle"))
        self.assertIs(type(told), list)
        for one in told:
            self.assertIs(type(one), tuple)
            self.assertEqual([type(part) for part in one], [int, str, tuple])

    def test_the_program_stays_as_it_was_and_the_list_is_the_askers_own(self):
        program = program_of("swislwesetes")
        before = copy.deepcopy(program)
        told = flow(program)
        again = flow(program)
        self.assertEqual(program, before)
        self.assertIsNot(told, again)
        told.clear()
        self.assertEqual(flow(program), again)
        self.assertEqual(program, before)
        nothing = ([], [])
        flow(nothing).append("changed")
        self.assertEqual(nothing, ([], []))
        self.assertEqual(flow(nothing), [])

    def test_what_the_asker_changes_is_seen_at_the_next_asking(self):
        program = program_of("wse")
        flow(program)
        statement_at(program, 1)
        program[1].append(("stop", 8))
        program[1][0][5].clear()
        self.assertEqual(flow(program), [(1, "while", (1, 8)), (8, "stop", (0,))])
        self.assertEqual(statement_at(program, 1), ("while", 1, "<", ZERO, ONE, []))
        self.assertEqual(statement_at(program, 8), ("stop", 8))


class TestStatementAt(unittest.TestCase):
    def test_every_row(self):
        program = read("box a 3 0\nask a\nput a 1\nsay a\nmust a < 1\n"
                       "if a = 0\nstop\nelse\nwhile a < 1\nsay 0\nend\nend")
        a = ("box", "a")
        inner = ("while", 9, "<", a, ONE, [("say", 10, ZERO)])
        told = {2: ("ask", 2, "a"), 3: ("put", 3, "a", ONE), 4: ("say", 4, a), 5: ("must", 5, "<", a, ONE),
                6: ("if", 6, "=", a, ZERO, [("stop", 7)], [inner]), 7: ("stop", 7), 9: inner, 10: ("say", 10, ZERO)}
        for row in told:
            self.assertEqual(statement_at(program, row), told[row])

    def test_every_row_of_every_program_of_few_rows(self):
        for letters in whole_texts(7, "s"):
            program = program_of(letters)
            for statement in statements_in(program[1]):
                self.assertEqual(statement_at(program, statement[1]), statement)

    def test_rows_with_gaps(self):
        body = [("if", 20, "<", ZERO, ONE, [("say", 30, ONE)], [("stop", 998)]), ("say", 999, ZERO)]
        self.assertEqual(statement_at(([], body), 20), body[0])
        self.assertEqual(statement_at(([], body), 30), ("say", 30, ONE))
        self.assertEqual(statement_at(([], body), 998), ("stop", 998))
        self.assertEqual(statement_at(([], body), 999), ("say", 999, ZERO))

    def test_told_lists_are_new_ones(self):
        program = program_of("iwileelwewisleee")
        for statement in statements_in(program[1]):
            told = lists_in(statement_at(program, statement[1])) + lists_in(statement_at(program, statement[1]))
            every = told + lists_in(program)
            self.assertEqual(len(told), 2 * len(lists_in(statement)))
            self.assertEqual(len({id(one) for one in every}), len(every))

    def test_a_told_list_that_is_changed_changes_no_later_answer(self):
        program = program_of("iwileelwewisleee")
        before = copy.deepcopy(program)
        for statement in statements_in(program[1]):
            for one in lists_in(statement_at(program, statement[1])):
                one.append(("stop", 99))
            self.assertEqual(program, before)
            self.assertEqual(statement_at(program, statement[1]), statement)


if __name__ == "__main__":
    unittest.main()
