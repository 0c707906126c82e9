"""A desk that is told rows and answers each by a text."""

from everyrow.apart import told_apart
from everyrow.changes import changes
from everyrow.errors import NoForm, NoneYet, NoTarget
from everyrow.flow import flow
from everyrow.meet import meet
from everyrow.reader import read
from everyrow.runs import run
from everyrow.suites import suite
from everyrow.targets import targets
from everyrow.words import FIGURES, is_number, is_of

BOUND = 1000
BARE_WORDS = ("drop", "read", "keep", "suite", "changes", "apart")
TRUTHS = {"yes": True, "no": False}


class Desk:
    def __init__(self):
        self.rows = []
        self.program = None
        self.kept = None

    def say(self, row):
        form = form_of(row)
        if form[0] == "row":
            self.rows.append(form[1])
            return "ok"
        if form[0] == "drop":
            self.rows = []
            return "ok"
        if form[0] == "read":
            self.program = read("\n".join(self.rows))
            return "rows " + str(len(flow(self.program)))
        if self.program is None or (form[0] == "apart" and self.kept is None):
            raise NoneYet("no program was read or kept")
        if form[0] == "keep":
            self.kept = self.program
            return "ok"
        if form[0] == "apart":
            return apart_answer(self.program, self.kept)
        return program_answer(self.program, form)


def form_of(row):
    if row.startswith("row ") and "\n" not in row:
        return ("row", row[len("row "):])
    words = row.split(" ")
    if words[0] in BARE_WORDS and len(words) == 1:
        return (words[0],)
    if words[0] == "run" and len(words) <= 2:
        return ("run", figures_from(words[1:]))
    if words[0] == "meet":
        return ("meet", target_from(words[1:]))
    raise NoForm("a row of no such form")


def figures_from(words):
    if not words:
        return []
    if words[0] == "" or not is_of(words[0], FIGURES):
        raise NoForm("a word that is not of figures")
    return [int(figure) for figure in words[0]]


def target_from(words):
    if words == ["end"]:
        return ("end",)
    if len(words) == 2 and words[0] in ("row", "must"):
        return (words[0], row_from(words[1]))
    if len(words) == 3 and words[0] == "side" and words[2] in TRUTHS:
        return ("side", row_from(words[1]), TRUTHS[words[2]])
    raise NoForm("a word or more that tell no target")


def row_from(word):
    if not is_number(word):
        raise NoForm("a word that is no number")
    return int(word)


def program_answer(program, form):
    if form[0] == "run":
        return run_answer(program, form[1])
    if form[0] == "meet":
        return meet_answer(program, form[1])
    if form[0] == "suite":
        return suite_answer(program)
    return changes_answer(program)


def run_answer(program, figures):
    told = run(program, figures, BOUND)
    return " ".join([str(part) for part in told[1] + list(told[2])])


def meet_answer(program, target):
    if target not in targets(program):
        raise NoTarget("a target that the program has not")
    told = meet(program, target)
    if told[0] == "met":
        return "met " + word_of(told[1])
    return " ".join(["never", told[1], str(len(told[2]))])


def suite_answer(program):
    told = suite(program)
    return " ".join([word_of(figures) for figures in told[0]] + ["/", str(len(told[1]))])


def changes_answer(program):
    told = [told_apart(program, changed)[0] for changed in changes(program)]
    return " ".join([str(len(told)), str(told.count("alike"))])


def apart_answer(program, kept):
    told = told_apart(program, kept)
    if told[0] == "apart":
        return "apart " + word_of(told[1])
    return "alike " + str(len(told[1]))


def word_of(figures):
    if not figures:
        return "-"
    return "".join([str(figure) for figure in figures])
