"""Targets, whether a run meets one, the standings of a program, and the shortest inputs."""

from everyrow.chart import Chart, holds, word_at
from everyrow.errors import TooMany
from everyrow.flow import flow
from everyrow.runs import Walk, all_led_to

MOST_PLACES = 2000


def targets(program):
    told = []
    for entry in flow(program):
        row = entry[0]
        told.append(("row", row))
        if entry[1] in ("if", "while"):
            told.append(("side", row, True))
            told.append(("side", row, False))
        elif entry[1] == "must":
            told.append(("must", row))
    told.append(("end",))
    return told


def meets(program, figures, target):
    return target in met_by(Chart(program), figures)


def standings(program):
    return list(first_inputs(Chart(program)))


def shortest(program, target):
    found = shortest_inputs(Chart(program))
    if target in found:
        return list(found[target])
    return None


def targets_at(chart, standing):
    row = standing[0]
    word = word_at(chart, row)
    if word == "end":
        return [("end",)]
    if word in ("if", "while"):
        return [("row", row), ("side", row, holds(chart, standing))]
    if word == "must" and not holds(chart, standing):
        return [("row", row), ("must", row)]
    return [("row", row)]


def met_by(chart, figures):
    walk = Walk(chart, figures)
    met = {}
    # Between two asks nothing but the standing decides how a run goes on: come to twice, it goes round for ever.
    seen = {}
    while True:
        for target in targets_at(chart, walk.standing):
            met[target] = True
        if walk.end is not None or walk.standing in seen:
            return met
        if walk.is_at_ask():
            seen = {}
        else:
            seen[walk.standing] = True
        walk.go_on()


def shortest_inputs(chart):
    # All standings are gone through ahead of the look, so that too many of them are refused for each target alike.
    met = {}
    for standing, figures in first_inputs(chart).items():
        for target in targets_at(chart, standing):
            met.setdefault(target, figures)
    return met


def first_inputs(chart):
    return found_from(chart.first, lambda standing: all_led_to(chart, standing))


def found_from(first, led_from):
    # The asks of one count of figures are gone on from in the order of their own first inputs, so each place is found
    # by the first of its shortest inputs, and the dict keeps the places in their order.
    found = {}
    asking = gone_on(first, led_from, (), found)
    while asking:
        behind = []
        for figures, led in asking:
            for figure, place in enumerate(led):
                behind.extend(gone_on(place, led_from, figures + (figure,), found))
        asking = behind
    return found


def gone_on(place, led_from, figures, found):
    # Behind a place that was found already nothing is new, so only an ask that is new is gone on from.
    while place not in found:
        if len(found) == MOST_PLACES:
            raise TooMany("more places than are gone through")
        found[place] = figures
        led = led_from(place)
        if len(led) != 1:
            return [(figures, led)]
        place = led[0]
    return []
