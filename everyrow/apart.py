"""What is seen of a program, and whether two programs are alike or told apart by an input."""

from everyrow.chart import Chart, holds, word_at
from everyrow.runs import all_led_to, step_by
from everyrow.targets import found_from


def seen_from(program, standing):
    return Watch(program).sight_from(standing)


def right_alike(one, other, paper):
    both = (Watch(one), Watch(other))
    listed = dict([(pair, True) for pair in paper])
    if first_pair(both) not in listed:
        return False
    for pair in listed:
        if not see_alike(both, pair):
            return False
        if not all([behind in listed for behind in pairs_behind(both, pair)]):
            return False
    return True


def told_apart(one, other):
    both = (Watch(one), Watch(other))
    # All pairs are gone through ahead of the look, so that too many of them are refused ahead of either answer.
    found = found_from(first_pair(both), lambda pair: pairs_behind(both, pair))
    for pair in found:
        if not see_alike(both, pair):
            return ("apart", list(found[pair]))
    return ("alike", list(found))


class Watch:
    def __init__(self, program):
        self.chart = Chart(program)
        # Many standings lead unseen to the same sight, so that each is gone through once.
        self.sights = {}

    def sight_from(self, standing):
        passed = {}
        here = standing
        while here not in self.sights and here not in passed and is_unseen(self.chart, here):
            passed[here] = True
            here = step_by(self.chart, here, None)[0]
        if here in self.sights:
            told = self.sights[here]
        elif here in passed:
            told = (("round",), None)
        else:
            told = seen_at(self.chart, here)
        for each in passed:
            self.sights[each] = told
        self.sights[here] = told
        return told


def is_unseen(chart, standing):
    word = word_at(chart, standing[0])
    if word == "must":
        return holds(chart, standing)
    return word in ("put", "if", "while", "stop")


def seen_at(chart, standing):
    word = word_at(chart, standing[0])
    if word == "ask":
        return (("ask",), standing)
    if word == "say":
        told = step_by(chart, standing, None)
        return (("say", told[1]), told[0])
    return ((word,), None)


def first_pair(both):
    return (both[0].chart.first, both[1].chart.first)


def see_alike(both, pair):
    return both[0].sight_from(pair[0])[0] == both[1].sight_from(pair[1])[0]


def pairs_behind(both, pair):
    if not see_alike(both, pair):
        return []
    one = both[0].sight_from(pair[0])
    other = both[1].sight_from(pair[1])
    if one[0][0] == "say":
        return [(one[1], other[1])]
    if one[0][0] == "ask":
        return list(zip(all_led_to(both[0].chart, one[1]), all_led_to(both[1].chart, other[1])))
    return []
