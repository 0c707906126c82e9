"""By which figures a target is met, or a paper that it never is."""

from everyrow.chart import Chart
from everyrow.ranges import least_ranges, ranges_show
from everyrow.runs import all_led_to
from everyrow.targets import shortest, standings, targets_at


def standings_show(program, target, paper):
    chart = Chart(program)
    listed = dict([(standing, True) for standing in paper])
    if chart.first not in listed:
        return False
    for standing in listed:
        if target in targets_at(chart, standing):
            return False
        if not all([led in listed for led in all_led_to(chart, standing)]):
            return False
    return True


def meet(program, target):
    paper = least_ranges(program)
    if ranges_show(program, target, paper):
        return ("never", "ranges", paper)
    figures = shortest(program, target)
    if figures is not None:
        return ("met", figures)
    return ("never", "standings", sorted(standings(program)))
