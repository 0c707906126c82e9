"""Ranges of the boxes at each row, and the papers of them that show a target as never met."""

from everyrow.chart import Chart, by_names, in_order, word_at
from everyrow.flow import END


def range_of(program, e, ranges):
    return range_by(e, by_names(Chart(program), ranges))


def ways_from(program, row, ranges):
    return ways_by(Chart(program), row, ranges)


def least_ranges(program):
    chart = Chart(program)
    found = {chart.first[0]: first_ranges(chart)}
    waiting = [chart.first[0]]
    while waiting:
        row = waiting.pop()
        for way in ways_by(chart, row, found[row]):
            before = found.get(way[0])
            both = way[1] if before is None else spanned(before, way[1])
            if both != before:
                found[way[0]] = both
                waiting.append(way[0])
    return sorted(found.items())


def right_ranges(program, paper):
    return is_right(Chart(program), paper)


def ranges_show(program, target, paper):
    chart = Chart(program)
    if not is_right(chart, paper):
        return False
    by_row = dict(paper)
    row = END if target[0] == "end" else target[1]
    if row not in by_row:
        return True
    if target[0] == "side":
        return ranges_behind(chart, row, target[2], by_row[row]) is None
    if target[0] == "must":
        return ranges_behind(chart, row, False, by_row[row]) is None
    return False


def range_by(e, named):
    kind = e[0]
    if kind == "number":
        return (e[1], e[1])
    if kind == "box":
        return named[e[1]]
    left = range_by(e[1], named)
    right = range_by(e[2], named)
    if kind == "+":
        return (left[0] + right[0], left[1] + right[1])
    if kind == "-":
        return (left[0] - right[1], left[1] - right[0])
    products = [left[0] * right[0], left[0] * right[1], left[1] * right[0], left[1] * right[1]]
    return (min(products), max(products))


def ways_by(chart, row, ranges):
    word = word_at(chart, row)
    if word == "end":
        return []
    if word in ("must", "if", "while"):
        return condition_ways(chart, row, ranges)
    statement = chart.statements[row]
    named = by_names(chart, ranges)
    if word == "ask":
        named[statement[2]] = whole_range(chart.sizes[statement[2]])
    elif word == "put":
        named[statement[2]] = rest_range(range_by(statement[3], named), chart.sizes[statement[2]])
    return [(chart.ways[row][0], in_order(chart, named))]


def whole_range(size):
    return (0, size - 1)


def rest_range(worths, size):
    if worths[0] // size == worths[1] // size:
        return (worths[0] % size, worths[1] % size)
    return whole_range(size)


def condition_ways(chart, row, ranges):
    told = []
    # A must has but the one way, so its other side falls away here.
    for way, truth in zip(chart.ways[row], (True, False)):
        narrowed = ranges_behind(chart, row, truth, ranges)
        if narrowed is not None:
            told.append((way, narrowed))
    return told


def ranges_behind(chart, row, truth, ranges):
    statement = chart.statements[row]
    sign = statement[2]
    named = by_names(chart, ranges)
    left = range_by(statement[3], named)
    right = range_by(statement[4], named)
    if not may_be_gone(sign, truth, left, right):
        return None
    # One box may stand on both sides: its right is narrowed from what its left has come to.
    if statement[3][0] == "box":
        name = statement[3][1]
        named[name] = narrowed_left(sign, truth, named[name], left, right)
    if statement[4][0] == "box":
        name = statement[4][1]
        named[name] = narrowed_right(sign, truth, named[name], left, right)
    narrowed = in_order(chart, named)
    if any([part[0] > part[1] for part in narrowed]):
        return None
    return narrowed


def may_be_gone(sign, truth, left, right):
    if sign == "<" and truth:
        return left[0] < right[1]
    if sign == "<":
        return left[1] >= right[0]
    if truth:
        return max(left[0], right[0]) <= min(left[1], right[1])
    return not left[0] == left[1] == right[0] == right[1]


def narrowed_left(sign, truth, own, left, right):
    if sign == "<" and truth:
        return (own[0], min(own[1], right[1] - 1))
    if sign == "<":
        return (max(own[0], right[0]), own[1])
    return narrowed_by_equal(truth, own, left, right)


def narrowed_right(sign, truth, own, left, right):
    if sign == "<" and truth:
        return (max(own[0], left[0] + 1), own[1])
    if sign == "<":
        return (own[0], min(own[1], left[1]))
    return narrowed_by_equal(truth, own, right, left)


def narrowed_by_equal(truth, own, near, far):
    if truth:
        return (max(near[0], far[0]), min(near[1], far[1]))
    if far[0] != far[1]:
        return own
    low = own[0] + 1 if own[0] == far[0] else own[0]
    high = own[1] - 1 if own[1] == far[0] else own[1]
    return (low, high)


def first_ranges(chart):
    return tuple([(first, first) for first in chart.first[1]])


def spanned(one, other):
    return tuple([(min(a[0], b[0]), max(a[1], b[1])) for a, b in zip(one, other)])


def is_right(chart, paper):
    rows = [entry[0] for entry in paper]
    if rows != sorted(set(rows)):
        return False
    by_row = dict(paper)
    if not leads_into(by_row, (chart.first[0], first_ranges(chart))):
        return False
    for entry in paper:
        if not all([leads_into(by_row, way) for way in ways_by(chart, entry[0], entry[1])]):
            return False
    return True


def leads_into(by_row, way):
    return way[0] in by_row and all([a[0] <= b[0] and b[1] <= a[1] for a, b in zip(by_row[way[0]], way[1])])
