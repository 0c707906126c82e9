"""Inputs that meet all targets that can be met, none of them to spare."""

from everyrow.chart import Chart
from everyrow.targets import met_by, shortest_inputs, targets


def suite(program):
    chart = Chart(program)
    shortest_by = shortest_inputs(chart)
    never = [target for target in targets(program) if target not in shortest_by]
    return ([list(figures) for figures in needed(chart, shortest_by)], never)


def needed(chart, shortest_by):
    met = dict([(figures, met_by(chart, figures)) for figures in shortest_by.values()])
    counts = {}
    for figures in met:
        for target in met[figures]:
            counts[target] = counts.get(target, 0) + 1
    kept = []
    # One look is enough: an input that some target needs now is needed all the more when others are spared behind it.
    for figures in met:
        if any([counts[target] == 1 for target in met[figures]]):
            kept.append(figures)
        else:
            for target in met[figures]:
                counts[target] = counts[target] - 1
    return kept
