"""Targets, whether a run meets one, the standings of a program, and the shortest inputs."""

from everyrow.chart import Chart, holds, word_at
from everyrow.errors import TooMany
from everyrow.flow import flow
from everyrow.runs import Walk, all_led_to

MOST_STANDINGS = 2000


def targets(program):
    told = []
    for entry in flow(program):
        row = entry[0]
        told.append(("row", row))
        if entry[1] in ("if", "while"):
            told.append(("side", row, True))
            told.append(("side", row, False))
        elif entry[1] == "must":
            told.append(("must", row))
    told.append(("end",))
    return told


def meets(program, figures, target):
    walk = Walk(Chart(program), figures)
    # Between two asks nothing but the standing decides how a run goes on: come to twice, it goes round for ever.
    seen = {}
    while walk.end is None and walk.standing not in seen:
        if is_met_at(walk.chart, walk.standing, target):
            return True
        if walk.is_at_ask():
            seen = {}
        else:
            seen[walk.standing] = True
        walk.go_on()
    return is_met_at(walk.chart, walk.standing, target)


def standings(program):
    return list(first_inputs(Chart(program)))


def shortest(program, target):
    chart = Chart(program)
    # All standings are gone through ahead of the look, so that too many of them are refused for each target alike.
    found = first_inputs(chart)
    for standing in found:
        if is_met_at(chart, standing, target):
            return list(found[standing])
    return None


def is_met_at(chart, standing, target):
    row = standing[0]
    word = word_at(chart, row)
    if target[0] == "end":
        return word == "end"
    if target[1] != row:
        return False
    if target[0] == "side":
        return word in ("if", "while") and holds(chart, standing) == target[2]
    if target[0] == "must":
        return word == "must" and not holds(chart, standing)
    return True


def first_inputs(chart):
    # The asks of one count of figures are gone on from in the order of their own first inputs, so each standing is
    # found by the first of its shortest inputs, and the dict keeps the standings in their order.
    found = {}
    asking = gone_on(chart, chart.first, (), found)
    while asking:
        behind = []
        for standing in asking:
            for figure, led in enumerate(all_led_to(chart, standing)):
                behind.extend(gone_on(chart, led, found[standing] + (figure,), found))
        asking = behind
    return found


def gone_on(chart, standing, figures, found):
    # Behind a standing that was found already nothing is new, so only an ask that is new is gone on from.
    while standing not in found:
        if len(found) == MOST_STANDINGS:
            raise TooMany("more standings than are gone through")
        found[standing] = figures
        if word_at(chart, standing[0]) == "ask":
            return [standing]
        led = all_led_to(chart, standing)
        if not led:
            return []
        standing = led[0]
    return []
