"""Promises 23 and 24: the desk, its rows, its answers and its refusals."""

import unittest

from everyrow.desk import Desk
from everyrow.errors import (Full, NoBox, NoForm, NoMeasure, NoneYet, NoPlace, NoRow, NoTarget, Open, RowError, TooDeep,
                             TooLong, TooMany, Twice)
from helper import program_of, targets_met

ASKING = ("box a 4 0", "while a < 3", "ask a", "end", "say a")
GREAT = ("box a 10 0", "box b 10 0", "box c 10 0", "box d 10 0", "ask a", "ask b", "ask c", "ask d")


def desk_with(*rows):
    """A desk that has read these rows."""
    desk = Desk()
    for row in rows:
        desk.say("row " + row)
    desk.say("read")
    return desk


class DeskCase(unittest.TestCase):
    def said(self, desk, *talk):
        """Each row of the talk is answered as is told behind it."""
        for row, answer in talk:
            told = desk.say(row)
            self.assertIs(type(told), str)
            self.assertEqual(told, answer, row)

    def refused(self, desk, error, *rows):
        for row in rows:
            with self.assertRaises(RowError, msg=row) as refusal:
                desk.say(row)
            self.assertIs(type(refusal.exception), error, row)


class TestRows(DeskCase):
    def test_rows_are_taken_and_read(self):
        self.said(Desk(), ("row box a 4 0", "ok"), ("row ask a", "ok"), ("row say a+1", "ok"), ("read", "rows 2"),
                  ("run 2", "3 end"))

    def test_statements_are_counted_not_rows(self):
        for rows, count in ((["box a 2 0"], 0), (["stop"], 1), (["if 0 < 1", "say 1", "else", "say 2", "end"], 3),
                            (["while 0 < 1", "while 0 < 1", "stop", "end", "end", "stop"], 4), (["say 1"] * 80, 80)):
            desk = Desk()
            self.said(desk, *[("row " + row, "ok") for row in rows], ("read", f"rows {count}"))

    def test_any_signs_or_none(self):
        signs = "".join(chr(code) for code in range(32, 127) if chr(code) != "%")
        for row in ("", " ", "  ", signs, "row", "row ", "read", "x" * 5000, "say 1 ", " say 1"):
            desk = Desk()
            self.said(desk, ("row " + row, "ok"))
            self.refused(desk, NoRow, "read")

    def test_a_row_without_signs_is_a_row(self):
        desk = Desk()
        self.said(desk, ("row say 1", "ok"), ("row ", "ok"), ("row say 2", "ok"))
        self.refused(desk, NoRow, "read")

    def test_read_without_rows(self):
        desk = Desk()
        self.refused(desk, NoRow, "read")
        self.said(desk, ("row say 1", "ok"), ("read", "rows 1"), ("drop", "ok"))
        self.refused(desk, NoRow, "read")

    def test_rows_stay_behind_a_read(self):
        self.said(Desk(), ("row say 1", "ok"), ("read", "rows 1"), ("read", "rows 1"), ("row say 2", "ok"),
                  ("run", "1 end"), ("read", "rows 2"), ("run", "1 2 end"))

    def test_drop_drops_the_rows_alone(self):
        desk = Desk()
        self.said(desk, ("drop", "ok"), ("row say 1", "ok"), ("read", "rows 1"), ("keep", "ok"), ("drop", "ok"),
                  ("run", "1 end"), ("apart", "alike 2"), ("drop", "ok"), ("row say 2", "ok"), ("row say 3", "ok"),
                  ("run", "1 end"), ("read", "rows 2"), ("run", "2 3 end"), ("apart", "apart -"))

    def test_desks_share_nothing(self):
        one, other = desk_with("say 1"), Desk()
        self.refused(other, NoneYet, "run", "keep")
        self.refused(other, NoRow, "read")
        self.said(other, ("row say 2", "ok"), ("read", "rows 1"), ("run", "2 end"), ("keep", "ok"))
        self.said(one, ("run", "1 end"), ("read", "rows 1"))
        self.refused(one, NoneYet, "apart")


class TestRun(DeskCase):
    def test_figures_or_none(self):
        self.said(desk_with(*ASKING), ("run", "out"), ("run 3", "3 end"), ("run 0123", "3 end"), ("run 012", "out"),
                  ("run 7", "3 end"), ("run 39999", "3 end"), ("run " + "0" * 5000, "on"))

    def test_each_figure(self):
        desk = desk_with("box a 10 0", "ask a", "say a")
        self.said(desk, *[(f"run {figure}", f"{figure} end") for figure in range(10)])
        self.said(desk, ("run 00", "0 end"), ("run 90", "9 end"))

    def test_numbers_said(self):
        self.said(desk_with("say 1", "say 0-12", "say 999*999*999", "say 0"), ("run", "1 -12 997002999 0 end"))
        self.said(desk_with("box a 2 0"), ("run", "end"), ("run 12", "end"))

    def test_a_failing_must(self):
        desk = desk_with("box a 10 0", "say 5", "ask a", "must a < 4", "say a", "ask a", "must a = 1")
        self.said(desk, ("run", "5 out"), ("run 4", "5 must 4"), ("run 3", "5 3 out"), ("run 31", "5 3 end"),
                  ("run 32", "5 3 must 7"))

    def test_on(self):
        self.said(desk_with("while 0 < 1", "end"), ("run", "on"), ("run 1", "on"))
        self.said(desk_with("while 0 < 1", "say 7", "end"), ("run", "7 " * 500 + "on"))

    def test_the_bound(self):
        rows = ["box a 10 0", "box b 10 0", "while b < 9", "put b b+1", "put a 0", "while a < 9", "put a a+1"]
        rows += ["say 1"] * 8 + ["end"] + ["say 2"] * 17 + ["end"]
        words = (["1"] * 72 + ["2"] * 17) * 9
        self.said(desk_with(*rows), ("run", " ".join(words + ["end"])))
        self.said(desk_with(*rows, "say 3"), ("run", " ".join(words + ["on"])))
        self.said(desk_with(*rows, "ask a"), ("run", " ".join(words + ["on"])))


class TestMeet(DeskCase):
    def test_each_kind_that_is_met(self):
        desk = desk_with("box a 10 0", "ask a", "must a < 7", "ask a", "if a = 5", "say 1", "end")
        self.said(desk, ("meet row 2", "met -"), ("meet row 3", "met 0"), ("meet must 3", "met 7"),
                  ("meet row 4", "met 0"), ("meet row 5", "met 00"), ("meet side 5 yes", "met 05"),
                  ("meet side 5 no", "met 00"), ("meet row 6", "met 05"), ("meet end", "met 00"))

    def test_each_kind_that_is_never_met_by_ranges(self):
        desk = desk_with("box a 4 0", "ask a", "must a < 4", "if a = 5", "say 1", "end", "while a < 4", "end")
        self.said(desk, ("meet must 3", "never ranges 4"), ("meet side 4 yes", "never ranges 4"),
                  ("meet row 5", "never ranges 4"), ("meet side 7 no", "never ranges 4"), ("meet end", "never ranges 4"),
                  ("meet side 4 no", "met 0"), ("meet side 7 yes", "met 0"))

    def test_each_kind_that_is_never_met_by_standings(self):
        desk = desk_with("box a 2 0", "ask a", "must a*a = a", "if a*a = a", "else", "say 1", "end")
        self.said(desk, ("meet must 3", "never standings 7"), ("meet side 4 no", "never standings 7"),
                  ("meet row 6", "never standings 7"), ("meet end", "met 0"))
        self.said(desk_with("box a 2 0", "while a*a = a", "ask a", "end"), ("meet end", "never standings 4"))

    def test_no_statements(self):
        self.said(desk_with("box a 2 0"), ("meet end", "met -"))

    def test_rows_of_two_figures(self):
        self.said(desk_with(*["say 1"] * 80), ("meet row 10", "met -"), ("meet row 80", "met -"))

    def test_many_standings_where_ranges_tell(self):
        self.said(desk_with(*GREAT, "must a < 10"), ("meet must 9", "never ranges 6"))


class TestSuite(DeskCase):
    def test_answers_that_can_be_but_one(self):
        self.said(desk_with("box a 2 0"), ("suite", "- / 0"))
        self.said(desk_with("stop", "say 1", "say 2"), ("suite", "- / 2"))
        self.said(desk_with("while 0 < 1", "end"), ("suite", "- / 2"))

    def test_the_inputs_meet_all(self):
        for rows in (ASKING, ["box a 10 0", "ask a", "ask a", "if a < 3", "say 1", "else", "must a < 9", "end"],
                     ["box a 4 0", "ask a", "if a = 1", "ask a", "if a = 2", "must a < 1", "end", "end"]):
            words = desk_with(*rows).say("suite").split(" ")
            self.assertEqual(words[-2:], ["/", "0"])
            for word in words[:-2]:
                self.assertRegex(word, r"\A([0-9]+|-)\Z")
            program = program_of(*rows)
            met = [targets_met(program, [int(sign) for sign in word if sign != "-"]) for word in words[:-2]]
            self.assertIn(("end",), set().union(*met))
            for place in range(len(met)):
                self.assertTrue(met[place] - set().union(*met[:place], *met[place + 1:]))

    def test_how_many_inputs(self):
        desk = desk_with("box a 10 0", "ask a", "must a < 9", "if a = 8", "must a < 8", "end")
        words = desk.say("suite").split(" ")
        self.assertEqual([sorted(words[:-2]), words[-2:]], [["0", "8", "9"], ["/", "0"]])


class TestChanges(DeskCase):
    def test_none(self):
        self.said(desk_with("box a 2 0"), ("changes", "0 0"))
        self.said(desk_with("box a 2 0", "ask a", "stop"), ("changes", "0 0"))

    def test_how_many_and_how_many_alike(self):
        self.said(desk_with(*ASKING), ("changes", "5 0"))
        self.said(desk_with("box a 2 0", "say a*1"), ("changes", "4 2"))
        self.said(desk_with("if 0 = 0", "end"), ("changes", "4 4"))
        self.said(desk_with("stop", "say 1"), ("changes", "3 3"))

    def test_ten_and_more(self):
        self.said(desk_with("stop", *["say 1"] * 40), ("changes", "120 120"))


class TestApart(DeskCase):
    def after(self, kept, rows, answer):
        desk = desk_with(*kept)
        self.said(desk, ("keep", "ok"), ("drop", "ok"), *[("row " + row, "ok") for row in rows])
        desk.say("read")
        self.said(desk, ("apart", answer), ("apart", answer))

    def test_alike(self):
        self.after(["say 1"], ["say 2-1", "stop"], "alike 2")
        self.after(["box a 10 0", "ask a"], ["box b 5 0", "ask b", "must b < 5"], "alike 11")
        self.after(["box a 2 0"], ["stop"], "alike 1")

    def test_apart(self):
        self.after(["say 1"], ["say 2"], "apart -")
        self.after(["box a 10 0", "ask a", "say a"], ["box b 5 0", "ask b", "say b"], "apart 5")
        self.after(["box a 10 0", "ask a", "ask a", "say a"], ["box b 5 0", "ask b", "ask b", "say b"], "apart 05")

    def test_keep_keeps_what_is_read_now(self):
        self.said(desk_with("say 1"), ("keep", "ok"), ("apart", "alike 2"), ("row say 2", "ok"), ("apart", "alike 2"),
                  ("read", "rows 2"), ("apart", "apart -"), ("keep", "ok"), ("apart", "alike 3"))


class TestRefusals(DeskCase):
    NO_FORMS = (
        "", " ", "  ", "\n", "row", "rows", "Row say 1", "ROW say 1", " row say 1", "row\n", "row \n", "row say 1\n",
        "row say 1\nsay 2", "rowsay 1", "drop ", " drop", "drop x", "drop\n", "dropread", "drop read", "Drop",
        "read ", "read x", "read\n", "reads", "keep ", "keep keep", "kept", "run ", "run  ", "run  1", "run 1 ",
        "run 1 2", "run a", "run 1a", "run a1", "run -", "run -1", "run +1", "run 1.5", "run 1\n", "run\n", "run \n1",
        "Run 1", "run1", "meet", "meet ", "meet  end", "meet end ", "meet END", "meet end 1", "meets end", "meet stop",
        "meet 2", "meet row", "meet row ", "meet row  2", "meet row 2 ", "meet row 02", "meet row 00", "meet row 002",
        "meet row 1000", "meet row " + "1" * 5000, "meet row -2", "meet row +2", "meet row a", "meet row 2a",
        "meet row 2\n", "meet row 2 2", "meet row 2 yes", "meet must", "meet must 02", "meet must x", "meet must 2 3",
        "meet side", "meet side 2", "meet side yes", "meet side 2 maybe", "meet side 2 True", "meet side 2 Yes",
        "meet side 02 yes", "meet side 2 yes ", "meet side 2  yes", "meet side yes 2", "meet side 2 yes no",
        "meet side x no", "meet side 1000 no", "suite ", "suite 1", "suites", "changes ", "changes 1", "change",
        "apart ", "apart -", "apart apart", "say 1", "stop", "end", "box a 2 0", "/", "-", "ok",
    )

    def test_no_form_ahead_of_all_else(self):
        self.refused(Desk(), NoForm, *self.NO_FORMS)
        desk = desk_with(*ASKING)
        self.refused(desk, NoForm, *self.NO_FORMS)
        self.said(desk, ("keep", "ok"))
        self.refused(desk, NoForm, *self.NO_FORMS)
        self.said(desk, ("apart", "alike 5"), ("run 3", "3 end"), ("read", "rows 3"))
        self.refused(desk_with(*GREAT), NoForm, *self.NO_FORMS)

    def test_what_read_refuses(self):
        for error, rows in (
                (TooLong, ["say 1"] * 81), (NoRow, ["say"]), (NoRow, ["say  1"]), (NoPlace, ["end"]),
                (NoPlace, ["say 1", "box a 2 0"]), (TooDeep, ["while 0 < 1"] * 6), (NoMeasure, ["box a 1 0"]),
                (Twice, ["box a 2 0", "box a 2 0"]), (Full, [f"box {name} 2 0" for name in "abcde"]),
                (NoBox, ["ask a"]), (Open, ["while 0 < 1"])):
            desk = Desk()
            self.said(desk, *[("row " + row, "ok") for row in rows])
            self.refused(desk, error, "read", "read")
            self.refused(desk, NoneYet, "run")

    def test_none_yet(self):
        rows = ("keep", "run", "run 12", "meet row 2", "meet side 2 yes", "meet must 2", "meet end", "suite", "changes",
                "apart", "meet row 0", "meet row 999")
        desk = Desk()
        self.refused(desk, NoneYet, *rows)
        self.said(desk, ("row say 1", "ok"))
        self.refused(desk, NoneYet, *rows)
        self.said(desk, ("read", "rows 1"), ("run", "1 end"))
        self.refused(desk, NoneYet, "apart")
        self.said(desk, ("keep", "ok"), ("apart", "alike 2"))

    def test_none_yet_ahead_of_too_many(self):
        desk = desk_with(*GREAT)
        self.refused(desk, NoneYet, "apart")
        self.said(desk, ("keep", "ok"))
        self.refused(desk, TooMany, "apart")

    def test_no_target(self):
        desk = desk_with("box a 4 0", "ask a", "must a < 3", "if a = 1", "say 1", "else", "put a 1", "end", "while a < 1",
                         "stop", "end")
        self.refused(desk, NoTarget, "meet row 0", "meet row 1", "meet row 6", "meet row 8", "meet row 11", "meet row 999",
                     "meet must 0", "meet must 2", "meet must 4", "meet must 5", "meet must 9", "meet must 10",
                     "meet side 0 yes", "meet side 2 yes", "meet side 3 yes", "meet side 3 no", "meet side 5 no",
                     "meet side 7 no", "meet side 10 yes", "meet side 12 no", "meet must 1", "meet must 500")
        for row in (2, 3, 4, 5, 7, 9, 10):
            desk.say(f"meet row {row}")
        for row in ("must 3", "side 4 yes", "side 4 no", "side 9 yes", "side 9 no", "end"):
            desk.say(f"meet {row}")

    def test_no_target_ahead_of_too_many(self):
        desk = desk_with(*GREAT)
        self.refused(desk, TooMany, "meet row 5", "meet end", "suite")
        self.refused(desk, NoTarget, "meet row 9", "meet must 5", "meet side 5 yes", "meet side 8 no")

    def test_too_many(self):
        desk = desk_with(*GREAT, "say 1")
        self.refused(desk, TooMany, "meet row 5", "meet row 9", "meet end", "suite", "changes")
        self.said(desk, ("keep", "ok"))
        self.refused(desk, TooMany, "apart")
        self.said(desk, ("run 1234", "1 end"))

    def test_changes_are_refused_where_one_of_them_is(self):
        self.said(desk_with(*GREAT), ("changes", "0 0"))
        rows = ["box a 10 0", "box b 10 0", "box c 10 0", "box d 10 0", "say 1", "ask a", "ask b", "ask c", "ask d"]
        self.said(desk_with(*rows), ("changes", "3 0"))
        self.refused(desk_with(*rows, "say a*0"), TooMany, "changes")

    def test_what_is_refused_changes_nothing(self):
        desk = desk_with("say 1")
        self.said(desk, ("keep", "ok"), ("row while 0 < 1", "ok"))
        self.refused(desk, Open, "read")
        self.said(desk, ("run", "1 end"), ("apart", "alike 2"), ("meet row 1", "met -"))
        self.refused(desk, NoTarget, "meet row 2")
        self.refused(desk, NoForm, *self.NO_FORMS)
        self.said(desk, ("row end", "ok"), ("read", "rows 2"), ("run", "1 on"), ("apart", "apart -"))

    def test_a_refused_keep_and_apart_change_nothing(self):
        desk = Desk()
        self.refused(desk, NoneYet, "keep", "apart")
        self.said(desk, ("row say 1", "ok"), ("read", "rows 1"))
        self.refused(desk, NoneYet, "apart")
        self.said(desk, ("keep", "ok"))

    def test_refused_too_many_change_nothing(self):
        desk = desk_with(*GREAT)
        self.said(desk, ("keep", "ok"))
        self.refused(desk, TooMany, "suite", "meet end", "apart")
        self.said(desk, ("read", "rows 4"), ("run 1234", "end"), ("drop", "ok"), ("row stop", "ok"), ("read", "rows 1"),
                  ("apart", "apart -"))


if __name__ == "__main__":
    unittest.main()
