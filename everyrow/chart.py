"""A program laid out by its rows, as runs and ranges go through it."""

from everyrow.flow import END, first_row, flow, statements_in
from everyrow.words import worth


class Chart:
    # Made anew for each question: one that was kept would not see what the asker changes in the program.
    def __init__(self, program):
        boxes = program[0]
        body = program[1]
        self.names = [box[0] for box in boxes]
        self.sizes = dict([(box[0], box[1]) for box in boxes])
        self.first = (first_row(body, END), tuple([box[2] for box in boxes]))
        self.statements = dict([(statement[1], statement) for statement in statements_in(body)])
        self.ways = dict([(told[0], told[2]) for told in flow(program)])


def word_at(chart, row):
    if row == END:
        return "end"
    return chart.statements[row][0]


def by_names(chart, parts):
    return dict(zip(chart.names, parts))


def in_order(chart, named):
    return tuple([named[name] for name in chart.names])


def holds(chart, standing):
    statement = chart.statements[standing[0]]
    values = by_names(chart, standing[1])
    left = worth(statement[3], values)
    right = worth(statement[4], values)
    if statement[2] == "<":
        return left < right
    return left == right
