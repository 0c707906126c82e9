"""Standings, steps from one to the next, and runs by an input."""

from everyrow.chart import Chart, by_names, holds, in_order, word_at
from everyrow.flow import END
from everyrow.words import worth

FIGURE_COUNT = 10


def first_standing(program):
    return Chart(program).first


def step(program, standing, figure):
    return step_by(Chart(program), standing, figure)


def run(program, figures, bound):
    walk = Walk(Chart(program), figures)
    rows = []
    said = []
    while walk.end is None and len(rows) < bound:
        rows.append(walk.standing[0])
        number = walk.go_on()
        if number is not None:
            said.append(number)
    if walk.end is None:
        return (rows, said, ("on",))
    return (rows, said, walk.end)


class Walk:
    def __init__(self, chart, figures):
        self.chart = chart
        self.figures = figures
        self.taken = 0
        self.standing = chart.first
        self.end = None
        self.look_for_end()

    def look_for_end(self):
        # Looked for as soon as it is come to: a run that is at the end begins no other statement, whatever its bound.
        if self.standing[0] == END:
            self.end = ("end",)

    def is_at_ask(self):
        return word_at(self.chart, self.standing[0]) == "ask"

    def go_on(self):
        figure = None
        if self.is_at_ask():
            if self.taken == len(self.figures):
                self.end = ("out",)
                return None
            figure = self.figures[self.taken]
            self.taken += 1
        told = step_by(self.chart, self.standing, figure)
        if told[0] is None:
            self.end = ("must", self.standing[0])
        else:
            self.standing = told[0]
            self.look_for_end()
        return told[1]


def step_by(chart, standing, figure):
    row = standing[0]
    statement = chart.statements[row]
    word = statement[0]
    if word in ("must", "if", "while"):
        return (behind_condition(chart, standing), None)
    values = by_names(chart, standing[1])
    said = None
    if word == "ask":
        values[statement[2]] = figure % chart.sizes[statement[2]]
    elif word == "put":
        values[statement[2]] = worth(statement[3], values) % chart.sizes[statement[2]]
    elif word == "say":
        said = worth(statement[2], values)
    return ((chart.ways[row][0], in_order(chart, values)), said)


def behind_condition(chart, standing):
    row = standing[0]
    if holds(chart, standing):
        return (chart.ways[row][0], standing[1])
    if word_at(chart, row) == "must":
        return None
    return (chart.ways[row][1], standing[1])


def all_led_to(chart, standing):
    word = word_at(chart, standing[0])
    if word == "end":
        return []
    if word == "ask":
        return [step_by(chart, standing, figure)[0] for figure in range(FIGURE_COUNT)]
    behind = step_by(chart, standing, None)[0]
    if behind is None:
        return []
    return [behind]
