"""Promises 5, 6 and 7: a program's text, the program told of it, the refusals; promise 2 over them."""

import itertools
import re
import unittest

from everyrow.errors import (
    Full, NoBox, NoMeasure, NoPlace, NoRow, Open, TooDeep, TooLong, Twice,
)
from everyrow.reader import read
from helper import lists_in

ZERO = ("number", 0)
ONE = ("number", 1)
A = ("box", "a")
B = ("box", "b")


def text_of(*rows):
    return "\n".join(rows)


class Reading(unittest.TestCase):
    def told(self, rows, boxes, body):
        self.assertEqual(read(text_of(*rows)), (boxes, body))

    def refused(self, refusal, *rows):
        with self.assertRaises(refusal, msg=rows) as caught:
            read(text_of(*rows))
        self.assertIs(type(caught.exception), refusal)


class TestPrograms(Reading):
    def test_boxes_alone_are_a_program(self):
        self.told(["box a 2 0"], [("a", 2, 0)], [])
        self.told(["box a 2 1", "box b 10 9", "box c 5 0", "box abcdefgh 7 6"],
                  [("a", 2, 1), ("b", 10, 9), ("c", 5, 0), ("abcdefgh", 7, 6)], [])

    def test_every_size_and_first(self):
        for size in range(0, 1000):
            for first in (0, 1, size - 1, size, size + 1):
                if not 0 <= first <= 999:
                    continue
                row = f"box a {size} {first}"
                if 2 <= size <= 10 and first < size:
                    self.told([row], [("a", size, first)], [])
                else:
                    self.refused(NoMeasure, row)

    def test_statements_without_boxes(self):
        self.told(["stop"], [], [("stop", 1)])
        self.told(["say 1"], [], [("say", 1, ONE)])
        self.told(["must 0 < 1"], [], [("must", 1, "<", ZERO, ONE)])

    def test_plain_statements_and_their_rows(self):
        self.told(
            ["box a 4 1", "box b 3 0", "ask a", "put b a+1", "say a*b", "must a < b", "must 1 = a", "stop"],
            [("a", 4, 1), ("b", 3, 0)],
            [("ask", 3, "a"), ("put", 4, "b", ("+", A, ONE)), ("say", 5, ("*", A, B)),
             ("must", 6, "<", A, B), ("must", 7, "=", ONE, A), ("stop", 8)],
        )

    def test_if_without_else(self):
        self.told(["box a 4 1", "if a < 1", "say 0", "end", "say 1"], [("a", 4, 1)],
                  [("if", 2, "<", A, ONE, [("say", 3, ZERO)], []), ("say", 5, ONE)])

    def test_if_with_else(self):
        self.told(["if 0 = 1", "say 0", "say 1", "else", "stop", "end", "say 1"], [],
                  [("if", 1, "=", ZERO, ONE, [("say", 2, ZERO), ("say", 3, ONE)], [("stop", 5)]), ("say", 7, ONE)])

    def test_while(self):
        self.told(["while 0 < 1", "say 0", "end", "while 1 = 0", "stop", "end"], [],
                  [("while", 1, "<", ZERO, ONE, [("say", 2, ZERO)]),
                   ("while", 4, "=", ONE, ZERO, [("stop", 5)])])

    def test_bodies_without_statements(self):
        self.told(["if 0 < 1", "end"], [], [("if", 1, "<", ZERO, ONE, [], [])])
        self.told(["if 0 < 1", "else", "end"], [], [("if", 1, "<", ZERO, ONE, [], [])])
        self.told(["if 0 < 1", "else", "stop", "end"], [], [("if", 1, "<", ZERO, ONE, [], [("stop", 3)])])
        self.told(["if 0 < 1", "stop", "else", "end"], [], [("if", 1, "<", ZERO, ONE, [("stop", 2)], [])])
        self.told(["while 0 < 1", "end"], [], [("while", 1, "<", ZERO, ONE, [])])

    def test_bodies_five_deep(self):
        for words in itertools.product(("if", "while"), repeat=5):
            rows = [word + " 0 < 1" for word in words] + ["stop"] + ["end"] * 5
            body = [("stop", 6)]
            for k in (5, 4, 3, 2, 1):
                extra = ([],) if words[k - 1] == "if" else ()
                body = [(words[k - 1], k, "<", ZERO, ONE, body) + extra]
            self.told(rows, [], body)

    def test_a_second_body_is_as_deep_as_the_first(self):
        rows = ["while 0 = 0"] * 4 + ["if 0 = 0", "else", "stop", "end"] + ["end"] * 4
        body = [("if", 5, "=", ZERO, ZERO, [], [("stop", 7)])]
        for k in (4, 3, 2, 1):
            body = [("while", k, "=", ZERO, ZERO, body)]
        self.told(rows, [], body)

    def test_bodies_in_second_bodies(self):
        self.told(["if 0 = 0", "say 0", "else", "if 0 = 1", "say 1", "else", "stop", "end", "say 0", "end", "stop"], [],
                  [("if", 1, "=", ZERO, ZERO, [("say", 2, ZERO)],
                    [("if", 4, "=", ZERO, ONE, [("say", 5, ONE)], [("stop", 7)]), ("say", 9, ZERO)]), ("stop", 11)])

    def test_an_else_belongs_to_the_innermost_body(self):
        self.told(["if 0 = 0", "if 0 = 1", "else", "stop", "end", "else", "say 1", "end"], [],
                  [("if", 1, "=", ZERO, ZERO, [("if", 2, "=", ZERO, ONE, [], [("stop", 4)])], [("say", 7, ONE)])])

    def test_bodies_end_and_others_are_begun_as_deep(self):
        rows = (["if 0 = 0"] * 5 + ["end"] * 5) * 3
        boxes, body = read(text_of(*rows))
        self.assertEqual([statement[:2] for statement in body], [("if", 1), ("if", 11), ("if", 21)])

    def test_eighty_rows(self):
        self.told(["stop"] * 80, [], [("stop", k) for k in range(1, 81)])
        self.told(["box a 2 0"] + ["ask a"] * 79, [("a", 2, 0)], [("ask", k, "a") for k in range(2, 81)])

    def test_a_condition_of_two_long_expressions(self):
        sixty = "10" + "+1" * 29
        boxes, body = read(f"must {sixty} = {sixty}")
        self.assertEqual(body[0][:3], ("must", 1, "="))
        self.assertEqual(body[0][3], body[0][4])
        self.refused(NoRow, f"must 1{sixty} = 1")
        self.refused(NoRow, f"must 1 = 1{sixty}")

    def test_kinds_of_all_that_is_told(self):
        program = read(text_of("box a 3 1", "if a < 1", "ask a", "else", "end"))
        boxes, body = program
        self.assertIs(type(program), tuple)
        self.assertIs(type(boxes), list)
        self.assertIs(type(body), list)
        self.assertIs(type(boxes[0]), tuple)
        self.assertIs(type(body[0]), tuple)
        self.assertEqual([type(part) for part in boxes[0]], [str, int, int])
        self.assertEqual([type(part) for part in body[0]], [str, int, str, tuple, tuple, list, list])


class TestOwnLists(Reading):
    TEXT = text_of("box a 3 1", "if a < 1", "else", "end", "if 0 = 0", "end", "while 0 < a", "end",
                   "while a < 0", "if a = a", "else", "end", "end")

    def test_no_two_told_lists_are_one(self):
        found = lists_in(read(self.TEXT)) + lists_in(read(self.TEXT)) + lists_in(read("box a 2 0"))
        self.assertEqual(len(found), 10 + 10 + 2)
        self.assertEqual(len({id(one) for one in found}), len(found))

    def test_a_told_list_that_is_changed_changes_no_later_answer(self):
        before = repr(read(self.TEXT))
        for one in lists_in(read(self.TEXT)):
            one.append("changed")
        self.assertEqual(repr(read(self.TEXT)), before)
        for one in lists_in(read(self.TEXT)):
            one.clear()
        self.assertEqual(repr(read(self.TEXT)), before)


class TestNoRow(Reading):
    GOOD = ("box b 3 1", "ask a", "put a 1", "say a", "must a < 1", "must a = 1", "if a < 1", "if a = 1",
            "while a < 1", "while a = 1", "stop")

    def each_place(self, row):
        self.refused(NoRow, row)
        self.refused(NoRow, "box a 3 0", row)
        self.refused(NoRow, "box a 3 0", "stop", row)
        self.refused(NoRow, "box a 3 0", row, "stop")
        self.refused(NoRow, "box a 3 0", "if a < 1", row, "end")
        self.refused(NoRow, "box a 3 0", "if a < 1", "else", row)

    def test_the_text_without_signs(self):
        with self.assertRaises(NoRow):
            read("")

    def test_rows_without_signs(self):
        self.each_place("")
        with self.assertRaises(NoRow):
            read("\n")
        with self.assertRaises(NoRow):
            read("stop\n")
        with self.assertRaises(NoRow):
            read("\nstop")
        with self.assertRaises(NoRow):
            read("stop\n\nstop")

    def test_blanks_ahead_behind_and_doubled(self):
        self.each_place(" ")
        self.each_place("  ")
        for row in self.GOOD + ("else", "end"):
            self.each_place(" " + row)
            self.each_place(row + " ")
            if " " in row:
                self.each_place(row.replace(" ", "  "))
                self.each_place(row.replace(" ", "  ", 1))

    def test_other_counts_of_words(self):
        for row in self.GOOD + ("else", "end"):
            self.each_place(row + " a")
            self.each_place(row + " 1")
            if " " in row:
                self.each_place(row.rpartition(" ")[0])
                self.each_place(row.replace(" ", ""))
        for word in ("box", "ask", "put", "say", "must", "if", "while"):
            self.each_place(word)

    def test_every_head_and_count(self):
        for count in range(0, 7):
            for rest in (["a"] * count, ["1"] * count, (["a", "<"] * 3)[:count], (["1", "="] * 3)[:count]):
                for word in ("a", "1", "Stop", "STOP", "stops", "boxes", "<", "=", "els", "then", "asks"):
                    self.each_place(" ".join([word] + rest))

    def test_words_of_boxes(self):
        for name in ("", "1", "A", "a1", "abcdefghi", "box", "end", "stop", "a+b", "(a)", "z" * 10000):
            self.each_place(f"box {name} 3 0")
        for size in ("", "a", "03", "003", "0003", "1000", "10000", "-3", "+3", "3.", "(3)", "1+2", "3" * 5000):
            self.each_place(f"box c {size} 0")
            self.each_place(f"box c 3 {size}")

    def test_words_of_ask_and_put(self):
        for name in ("", "1", "A", "a1", "abcdefghi", "box", "end", "ask", "a+b", "(a)", "z" * 10000):
            self.each_place(f"ask {name}")
            self.each_place(f"put {name} 1")

    def test_expressions(self):
        for e in ("", "-1", "a-", "01", "1000", "A", "()", "((((((a))))))", "end", "a=1", "a<1", "a" * 9,
                  "1" + "+1" * 30, "(" * 5000 + "a" + ")" * 5000):
            for row in (f"put a {e}", f"say {e}", f"must {e} < 1", f"must 1 = {e}", f"if {e} = 1", f"if 1 < {e}",
                        f"while {e} < 1", f"while 1 = {e}"):
                self.each_place(row)

    def test_signs_of_conditions(self):
        for sign in ("", ">", "==", "<=", "<<", "=<", "!", "+", "a", "1", "~"):
            for word in ("must", "if", "while"):
                self.each_place(f"{word} a {sign} 1")
        for word in ("must", "if", "while"):
            self.each_place(f"{word} a<1")
            self.each_place(f"{word} a <1")
            self.each_place(f"{word} < a 1")
            self.each_place(f"{word} a 1 <")


class TestOtherRefusals(Reading):
    def test_no_place_of_a_box(self):
        for row in ("stop", "say 1", "must 0 < 1"):
            self.refused(NoPlace, row, "box a 2 0")
            self.refused(NoPlace, "box b 2 0", row, "box a 2 0")
        for row in ("if 0 < 1", "while 0 < 1"):
            self.refused(NoPlace, row, "box a 2 0")
            self.refused(NoPlace, row, "end", "box a 2 0")
            self.refused(NoPlace, row, "box a 2 0", "end")
        self.refused(NoPlace, "box a 2 0", "ask a", "box b 2 0")
        self.refused(NoPlace, "if 0 < 1", "else", "box a 2 0")

    def test_no_place_of_an_else(self):
        self.refused(NoPlace, "else")
        self.refused(NoPlace, "box a 2 0", "else")
        self.refused(NoPlace, "stop", "else")
        self.refused(NoPlace, "while 0 < 1", "else")
        self.refused(NoPlace, "if 0 < 1", "else", "else")
        self.refused(NoPlace, "if 0 < 1", "end", "else")
        self.refused(NoPlace, "if 0 < 1", "else", "end", "else")
        self.refused(NoPlace, "if 0 < 1", "while 0 < 1", "else")
        self.refused(NoPlace, "if 0 < 1", "if 0 < 1", "else", "else")
        self.refused(NoPlace, "while 0 < 1", "if 0 < 1", "end", "else")

    def test_no_place_of_an_end(self):
        self.refused(NoPlace, "end")
        self.refused(NoPlace, "box a 2 0", "end")
        self.refused(NoPlace, "stop", "end")
        self.refused(NoPlace, "if 0 < 1", "end", "end")
        self.refused(NoPlace, "if 0 < 1", "else", "end", "end")
        self.refused(NoPlace, "while 0 < 1", "end", "end")

    def test_too_deep(self):
        for words in itertools.product(("if", "while"), repeat=6):
            self.refused(TooDeep, *[word + " 0 < 1" for word in words])
        self.refused(TooDeep, *(["if 0 < 1", "else"] * 5 + ["if 0 < 1"]))
        self.refused(TooDeep, *(["while 0 < 1"] * 5 + ["stop", "if 0 < 1", "end"] + ["end"] * 5))

    def test_no_measure(self):
        for numbers in ("0 0", "1 0", "11 0", "999 0", "2 2", "2 3", "10 10", "10 999", "11 11", "1 1"):
            self.refused(NoMeasure, "box a " + numbers)
            self.refused(NoMeasure, "box b 2 0", "box a " + numbers)

    def test_twice(self):
        self.refused(Twice, "box a 2 0", "box a 2 0")
        self.refused(Twice, "box a 2 0", "box b 2 0", "box a 5 1")
        self.refused(Twice, "box a 2 0", "box b 2 0", "box c 3 0", "box b 5 1")

    def test_full(self):
        self.refused(Full, *[f"box {name} 2 0" for name in "abcde"])
        self.refused(Full, *[f"box {name} 2 0" for name in "edcba"], "stop")

    def test_no_box(self):
        for row in ("ask b", "put b 1", "put a b", "say b", "say a+b", "say b+a", "say 1*(2-b)", "say (b-2)*1",
                    "must b < 1", "must 1 = b", "must a < b", "if b < 1", "if a = b", "while b < a", "while 1 = 1-b"):
            self.refused(NoBox, "box a 2 0", row)
            self.refused(NoBox, row)
            self.refused(NoBox, "box a 2 0", "if a = 1", row, "end")
            ends = ["end"] if row.startswith(("if", "while")) else []
            self.assertEqual(len(read(text_of("box b 2 0", "box a 2 0", row, *ends))[1]), 1)

    def test_open(self):
        self.refused(Open, "if 0 < 1")
        self.refused(Open, "while 0 < 1")
        self.refused(Open, "if 0 < 1", "else")
        self.refused(Open, "if 0 < 1", "stop")
        self.refused(Open, "while 0 < 1", "if 0 < 1", "end")
        self.refused(Open, "if 0 < 1", "else", "if 0 < 1", "else", "end")
        self.refused(Open, *["while 0 < 1"] * 5)

    def test_too_long(self):
        self.refused(TooLong, *["stop"] * 81)
        self.refused(TooLong, *["stop"] * 5000)
        self.refused(TooLong, *[""] * 81)
        self.refused(NoRow, *[""] * 80)

    def test_the_nesting_of_every_few_rows(self):
        rows = {"s": "stop", "i": "if 0 < 1", "w": "while 0 < 1", "l": "else", "e": "end"}
        for length in range(1, 7):
            for letters in itertools.product("siwle", repeat=length):
                left = self.nesting_left("".join(letters))
                text = [rows[letter] for letter in letters]
                if left == "":
                    read(text_of(*text))
                elif re.fullmatch("[iw]{6}", left):
                    self.refused(TooDeep, *text)
                elif re.fullmatch("(i|w|il)+", left):
                    self.refused(Open, *text)
                else:
                    self.refused(NoPlace, *text)

    def nesting_left(self, letters):
        before = None
        while before != letters:
            before = letters
            letters = re.sub("s|ile|ie|we", "", letters)
        return letters


class TestOrderOfRefusals(Reading):
    FULL = tuple(f"box {name} 2 0" for name in "abcd")
    DEEP = ("while 0 < 1",) * 5

    def test_too_long_is_ahead_of_all(self):
        self.refused(TooLong, "", *["stop"] * 80)
        self.refused(TooLong, *["stop"] * 80, "")
        self.refused(TooLong, "else", *["stop"] * 80)
        self.refused(TooLong, *["if 0 < 1"] * 81)
        self.refused(TooLong, "box a 11 0", *["stop"] * 80)
        self.refused(TooLong, *["box a 2 0"] * 81)
        self.refused(TooLong, "ask a", *["stop"] * 80)
        self.refused(TooLong, "if 0 < 1", *["stop"] * 80)

    def test_no_row_is_ahead_of_no_place(self):
        self.refused(NoRow, "stop", "box a 02 0")
        self.refused(NoRow, "stop", "box if 2 0")
        self.refused(NoRow, "else 1")
        self.refused(NoRow, "end ")

    def test_no_row_is_ahead_of_too_deep(self):
        self.refused(NoRow, *self.DEEP, "if 0 < ")
        self.refused(NoRow, *self.DEEP, "while 0 > 1")

    def test_no_row_is_ahead_of_no_measure_twice_and_full(self):
        self.refused(NoRow, "box a 11 00")
        self.refused(NoRow, "box a 1000 0")
        self.refused(NoRow, "box a 11 1000")
        self.refused(NoRow, "box a 2 0", "box a 2 00")
        self.refused(NoRow, *self.FULL, "box e 2 00")

    def test_no_row_is_ahead_of_no_box(self):
        self.refused(NoRow, "ask b b")
        self.refused(NoRow, "put b 01")
        self.refused(NoRow, "put b b+")
        self.refused(NoRow, "if b < 01")
        self.refused(NoRow, "must b > b")

    def test_no_place_is_ahead_of_no_measure_twice_and_full(self):
        self.refused(NoPlace, "stop", "box a 11 0")
        self.refused(NoPlace, "box a 2 0", "stop", "box a 2 0")
        self.refused(NoPlace, *self.FULL, "stop", "box e 2 0")
        self.refused(NoPlace, *self.FULL, "stop", "box a 2 2")

    def test_too_deep_is_ahead_of_no_box(self):
        self.refused(TooDeep, *self.DEEP, "if a < 1")
        self.refused(TooDeep, *self.DEEP, "while 1 = a")

    def test_no_measure_is_ahead_of_twice_and_full(self):
        self.refused(NoMeasure, "box a 2 0", "box a 11 0")
        self.refused(NoMeasure, "box a 2 0", "box a 2 2")
        self.refused(NoMeasure, *self.FULL, "box e 11 0")
        self.refused(NoMeasure, *self.FULL, "box a 1 0")

    def test_twice_is_ahead_of_full(self):
        for name in "abcd":
            self.refused(Twice, *self.FULL, f"box {name} 2 0")
        self.refused(Full, *self.FULL, "box e 2 0", "box e 2 0")

    def test_of_unlike_rows_the_first_is_told(self):
        faults = {NoRow: "say", NoPlace: "end", NoMeasure: "box b 1 0", Twice: "box a 2 0", NoBox: "ask c"}
        for one, other in itertools.permutations(faults, 2):
            self.refused(one, "box a 2 0", faults[one], faults[other])
        self.refused(NoBox, "ask a", "box a 2 0")
        self.refused(NoBox, "ask a", *["if 0 < 1"] * 6)
        self.refused(TooDeep, *self.DEEP, "if 0 < 1", "")
        self.refused(Full, *self.FULL, "box e 2 0", "")

    def test_open_is_behind_all(self):
        self.refused(NoRow, "if 0 < 1", "")
        self.refused(NoPlace, "while 0 < 1", "else")
        self.refused(NoPlace, "while 0 < 1", "box a 2 0")
        self.refused(TooDeep, *self.DEEP, "if 0 < 1")
        self.refused(NoBox, "if 0 < 1", "ask a")
        self.refused(NoBox, "if a < 1")


if __name__ == "__main__":
    unittest.main()
