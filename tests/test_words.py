"""Promise 4: names, numbers, expressions and their worth; promise 2 over them."""

import ast
import itertools
import re
import unittest

from everyrow.errors import NoRow
from everyrow.words import expression, is_name, worth

NO_NAMES = ("box", "ask", "put", "say", "if", "else", "while", "must", "stop", "end")
ALL_SIGNS = [chr(code) for code in range(32, 127) if chr(code) != "%"] + ["\n"]
PYTHON_SIGNS = {ast.Add: "+", ast.Sub: "-", ast.Mult: "*"}


def number(n):
    return ("number", n)


def box(name):
    return ("box", name)


def is_expression(word):
    """The grammar once more, by taking away the innermost brackets again and again."""
    if len(word) > 60 or re.search(r"[^a-z0-9+*()-]", word):
        return False
    flat = r"F(?:[+*-]F)*"
    left = re.sub(r"[a-z0-9]+", lambda found: "F" if is_plain_factor(found.group()) else "!", word)
    for rounds in range(6):
        if re.fullmatch(flat, left):
            return True
        left = re.sub(r"\(" + flat + r"\)", lambda found: "G", left)
        if re.search(r"[F]G|G[FG]", left):
            return False
        left = left.replace("G", "F")
    return False


def is_plain_factor(word):
    if re.fullmatch(r"0|[1-9][0-9]{0,2}", word):
        return True
    return bool(re.fullmatch(r"[a-z]{1,8}", word)) and word not in NO_NAMES


def by_python(word):
    return from_node(ast.parse(word, mode="eval").body)


def from_node(node):
    if isinstance(node, ast.Constant):
        return number(node.value)
    if isinstance(node, ast.Name):
        return box(node.id)
    return (PYTHON_SIGNS[type(node.op)], from_node(node.left), from_node(node.right))


class TestNames(unittest.TestCase):
    def test_names_of_one_to_eight_letters(self):
        for length in range(1, 9):
            self.assertIs(is_name("z" * length), True)
            self.assertIs(is_name("abcdefgh"[:length]), True)

    def test_each_small_letter_is_a_name(self):
        for letter in "abcdefghijklmnopqrstuvwxyz":
            self.assertIs(is_name(letter), True)

    def test_no_letters_and_nine_and_many_are_no_name(self):
        for word in ("", "abcdefghi", "z" * 9, "z" * 100000):
            self.assertIs(is_name(word), False)

    def test_the_ten_words_are_no_names(self):
        for word in NO_NAMES:
            self.assertIs(is_name(word), False)

    def test_words_like_the_ten_are_names(self):
        for word in NO_NAMES:
            self.assertIs(is_name(word + "s"), True)
            self.assertIs(is_name("x" + word), True)
            self.assertIs(is_name(word[1:]), True)

    def test_other_signs_at_any_place_make_no_name(self):
        for sign in ALL_SIGNS:
            small = "a" <= sign <= "z"
            for word in (sign, sign + "bc", "b" + sign + "c", "bc" + sign):
                self.assertIs(is_name(word), small, word)


class TestNumbers(unittest.TestCase):
    def test_every_number_of_one_to_three_figures(self):
        for n in range(1000):
            self.assertEqual(expression(str(n)), number(n))

    def test_the_number_is_a_whole_number(self):
        self.assertIs(type(expression("1")[1]), int)
        self.assertIs(type(expression("0")[1]), int)

    def test_noughts_ahead_and_too_many_figures_are_refused(self):
        for word in ("00", "01", "09", "000", "007", "010", "0000", "0001", "1000", "9999", "12345"):
            for whole in (word, "a+" + word, word + "*a", "(" + word + ")"):
                with self.assertRaises(NoRow, msg=whole):
                    expression(whole)

    def test_thousands_of_figures_are_refused(self):
        for word in ("9" * 60, "9" * 61, "9" * 5000, "0" * 5000):
            with self.assertRaises(NoRow):
                expression(word)


class TestExpressions(unittest.TestCase):
    def told(self, word, e):
        self.assertEqual(expression(word), e)

    def refused(self, word):
        with self.assertRaises(NoRow, msg=word[:70]):
            expression(word)

    def test_factors(self):
        self.told("7", number(7))
        self.told("a", box("a"))
        self.told("abcdefgh", box("abcdefgh"))
        self.told("(a)", box("a"))
        for letter in "abcdefghijklmnopqrstuvwxyz":
            self.told(letter, box(letter))

    def test_like_signs_go_from_left_to_right(self):
        self.told("1+2+3", ("+", ("+", number(1), number(2)), number(3)))
        self.told("1-2-3", ("-", ("-", number(1), number(2)), number(3)))
        self.told("1-2+3", ("+", ("-", number(1), number(2)), number(3)))
        self.told("1+2-3", ("-", ("+", number(1), number(2)), number(3)))
        self.told("1*2*3", ("*", ("*", number(1), number(2)), number(3)))

    def test_times_goes_ahead_of_plus_and_minus(self):
        self.told("1+2*3", ("+", number(1), ("*", number(2), number(3))))
        self.told("1-2*3", ("-", number(1), ("*", number(2), number(3))))
        self.told("1*2+3", ("+", ("*", number(1), number(2)), number(3)))
        self.told("a*b-c*d", ("-", ("*", box("a"), box("b")), ("*", box("c"), box("d"))))

    def test_brackets_go_ahead_of_all(self):
        self.told("(1+2)*3", ("*", ("+", number(1), number(2)), number(3)))
        self.told("3*(1-2)", ("*", number(3), ("-", number(1), number(2))))
        self.told("1-(2-3)", ("-", number(1), ("-", number(2), number(3))))

    def test_sixty_signs_and_sixty_one(self):
        sixty = "10" + "+1" * 29
        self.assertEqual(len(sixty), 60)
        self.assertEqual(worth(expression(sixty), {}), 39)
        self.refused("100" + "+1" * 29)
        self.refused("1" + "+1" * 30)
        self.assertEqual(worth(expression("1" + "+1" * 29), {}), 30)

    def test_brackets_count_as_signs(self):
        sixty = "(10" + "+1" * 27 + ")+1"
        self.assertEqual(len(sixty), 60)
        self.assertEqual(worth(expression(sixty), {}), 38)
        self.refused("(100" + "+1" * 27 + ")+1")

    def test_five_brackets_within_one_another_and_six(self):
        self.told("(((((1)))))", number(1))
        self.refused("((((((1))))))")
        self.told("(((((a)+1))))", ("+", box("a"), number(1)))
        self.refused("1+(1+(1+(1+(1+(1+(1))))))")
        self.assertEqual(worth(expression("1+(1+(1+(1+(1+(1)))))"), {}), 6)

    def test_brackets_beside_one_another_are_not_within(self):
        self.assertEqual(worth(expression("+".join(["(1)"] * 15)), {}), 15)
        self.assertEqual(worth(expression("(((((1)))))+(((((2)))))*(((((3)))))"), {}), 7)
        self.refused("(((((1)))))+((((((2))))))")

    def test_thousands_of_brackets(self):
        for many in (25, 1000, 5000, 100000):
            self.refused("(" * many + "1" + ")" * many)
            self.refused("(" * many)
            self.refused(")" * many)
            self.refused("()" * many)

    def test_empty_ones(self):
        for word in ("", "()", "(())", "1+()", "()+1", "a()", "()a"):
            self.refused(word)

    def test_signs_at_the_beginning_or_the_end(self):
        for sign in "+-*":
            for word in (sign, sign + "1", "1" + sign, sign + "a", "a" + sign, "(" + sign + "1)", "(1" + sign + ")"):
                self.refused(word)
            self.refused("2*(" + sign + "a)")
            self.refused("2" + sign + "(")

    def test_signs_doubled_or_missing(self):
        for one, two in itertools.product("+-*", repeat=2):
            self.refused("1" + one + two + "1")
            self.refused("a" + one + "(" + two + "1)")
        for word in ("1a", "a1", "1(2)", "(1)2", "(1)(2)", "a(b)", "(a)b", "a(1+b)"):
            self.refused(word)

    def test_brackets_that_do_not_match(self):
        for word in ("(", ")", "(1", "1)", "((1)", "(1))", ")1(", "1+(2", "(1+2))*3", ")("):
            self.refused(word)

    def test_other_signs_are_refused(self):
        for sign in ALL_SIGNS:
            if not re.fullmatch(r"[a-z0-9+*()-]", sign):
                for word in (sign, "1" + sign, sign + "1", "1" + sign + "2", "a" + sign + "b", "1+" + sign):
                    self.refused(word)

    def test_words_that_are_no_names_are_refused(self):
        for word in NO_NAMES:
            for whole in (word, "1+" + word, word + "*a", "(" + word + ")"):
                self.refused(whole)
        self.refused("abcdefghi")
        self.refused("1+abcdefghi")

    def test_every_short_word_by_the_grammar(self):
        for length in range(1, 7):
            for signs in itertools.product("a0+-*()"[0 if length < 6 else 1:], repeat=length):
                word = "".join(signs)
                if is_expression(word):
                    self.assertEqual(expression(word), by_python(word), word)
                else:
                    self.refused(word)

    def test_the_same_word_is_told_the_same(self):
        word = "(a+1)*(b-2)*3-c"
        self.assertEqual(expression(word), expression(word))
        self.assertEqual(expression(word), by_python(word))

    def test_all_that_is_told_is_tuples(self):
        waiting = [expression("(a+1)*(b-2)*3-c")]
        while waiting:
            e = waiting.pop()
            self.assertIs(type(e), tuple)
            if e[0] in "+-*":
                self.assertEqual(len(e), 3)
                waiting.extend(e[1:])
            else:
                self.assertEqual(len(e), 2)


class TestWorth(unittest.TestCase):
    def worth_is(self, word, values, n):
        self.assertEqual(worth(expression(word), values), n)

    def test_plain_worths(self):
        self.worth_is("5", {}, 5)
        self.worth_is("a", {"a": 4}, 4)
        self.worth_is("a+b*2", {"a": 1, "b": 3}, 7)
        self.worth_is("(a+b)*2", {"a": 1, "b": 3}, 8)
        self.worth_is("a-b-1", {"a": 9, "b": 3}, 5)
        self.worth_is("a-(b-1)", {"a": 9, "b": 3}, 7)

    def test_worths_below_nought(self):
        self.worth_is("0-1", {}, -1)
        self.worth_is("a-b", {"a": 2, "b": 9}, -7)
        self.worth_is("0-999*999", {}, -998001)
        self.worth_is("(0-2)*(0-3)", {}, 6)
        self.worth_is("(0-2)*3", {}, -6)

    def test_great_worths(self):
        self.worth_is("*".join(["999"] * 15), {}, 999 ** 15)
        self.worth_is("0-" + "*".join(["a"] * 29), {"a": 10}, -(10 ** 29))
        great = 10 ** 30 - 1
        self.worth_is("a*a-b", {"a": great, "b": -great}, great * great + great)

    def test_boxes_that_are_not_named_do_not_count(self):
        self.worth_is("b", {"a": 1, "b": 2, "c": 3}, 2)

    def test_worths_by_python(self):
        values = {"a": 7, "b": 0, "c": 12}
        for parts in itertools.product("a3", "+-*", "bc", "+-*", "2a", "+-*", "c0"):
            for word in ("".join(parts), "(" + "".join(parts[:3]) + ")" + "".join(parts[3:]),
                         "".join(parts[:2]) + "(" + "".join(parts[2:5]) + ")" + "".join(parts[5:]),
                         "".join(parts[:4]) + "(" + "".join(parts[4:]) + ")"):
                self.worth_is(word, values, eval(word, {}, dict(values)))

    def test_what_is_handed_in_stays_as_it_was(self):
        values = {"a": 7, "b": 2}
        self.worth_is("a*b-a", values, 7)
        self.assertEqual(list(values.items()), [("a", 7), ("b", 2)])

    def test_expressions_longer_than_read_ones_have_a_worth(self):
        e = number(1)
        for n in range(100):
            e = ("+", e, ("-", number(1000), box("a")))
        self.assertEqual(worth(e, {"a": 1}), 1 + 100 * 999)


if __name__ == "__main__":
    unittest.main()
