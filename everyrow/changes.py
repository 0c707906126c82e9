"""The programs that come of a program by changing one thing in it."""

from everyrow.flow import bodies_in, copied_statement, statements_in, with_bodies

GREATEST_NUMBER = 999
EXPRESSION_PLACES = {"ask": (), "put": (3,), "say": (2,), "must": (3, 4), "if": (3, 4), "while": (3, 4), "stop": ()}
OTHER_SIGNS = {"+": "-", "-": "+", "*": "+", "<": "=", "=": "<"}


def changes(program):
    told = []
    for statement in statements_in(program[1]):
        for others in others_for(statement):
            told.append((list(program[0]), body_with(program[1], statement[1], others)))
    return told


def body_with(body, row, others):
    told = []
    for statement in body:
        if statement[1] == row:
            told.extend([copied_statement(other) for other in others])
        else:
            told.append(with_bodies(statement, [body_with(inner, row, others) for inner in bodies_in(statement)]))
    return told


def others_for(statement):
    # What comes into the statement's place is a list, so that it may be nothing.
    word = statement[0]
    told = [[other] for other in with_other_expressions(statement)]
    if word in ("must", "if", "while"):
        told.append([with_part(statement, 2, OTHER_SIGNS[statement[2]])])
    if word in ("if", "while"):
        told.append([statement[:3] + (statement[4], statement[3]) + statement[5:]])
    if word in ("put", "say"):
        told.append([])
    return told


def with_other_expressions(statement):
    places = EXPRESSION_PLACES[statement[0]]
    told = []
    for place in places:
        told.extend([with_part(statement, place, e) for e in with_other_numbers(statement[place])])
    for place in places:
        told.extend([with_part(statement, place, e) for e in with_other_signs(statement[place])])
    return told


def with_part(statement, place, part):
    return statement[:place] + (part,) + statement[place + 1:]


def with_other_numbers(e):
    if e[0] == "number":
        return [("number", number) for number in numbers_beside(e[1])]
    if e[0] == "box":
        return []
    left = [(e[0], other, e[2]) for other in with_other_numbers(e[1])]
    right = [(e[0], e[1], other) for other in with_other_numbers(e[2])]
    return left + right


def numbers_beside(number):
    told = []
    if number < GREATEST_NUMBER:
        told.append(number + 1)
    if number > 0:
        told.append(number - 1)
    return told


def with_other_signs(e):
    if e[0] in ("number", "box"):
        return []
    left = [(e[0], other, e[2]) for other in with_other_signs(e[1])]
    right = [(e[0], e[1], other) for other in with_other_signs(e[2])]
    return left + [(OTHER_SIGNS[e[0]], e[1], e[2])] + right
