"""The rows of a program, and the rows to which each may lead."""

END = 0


def flow(program):
    return flow_of_body(program[1], END)


def statement_at(program, row):
    for statement in statements_in(program[1]):
        if statement[1] == row:
            return copied_statement(statement)
    return None


def flow_of_body(body, behind):
    told = []
    for place, statement in enumerate(body):
        after = first_row(body[place + 1:], behind)
        told.append((statement[1], statement[0], ways_of(statement, after)))
        for inner in bodies_in(statement):
            told.extend(flow_of_body(inner, behind_body(statement, after)))
    return told


def first_row(body, behind):
    if body:
        return body[0][1]
    return behind


def behind_body(statement, after):
    if statement[0] == "while":
        return statement[1]
    return after


def ways_of(statement, after):
    word = statement[0]
    if word == "stop":
        return (END,)
    if word == "if":
        return (first_row(statement[5], after), first_row(statement[6], after))
    if word == "while":
        return (first_row(statement[5], statement[1]), after)
    return (after,)


def bodies_in(statement):
    if statement[0] == "if":
        return [statement[5], statement[6]]
    if statement[0] == "while":
        return [statement[5]]
    return []


def statements_in(body):
    found = []
    for statement in body:
        found.append(statement)
        for inner in bodies_in(statement):
            found.extend(statements_in(inner))
    return found


def copied_statement(statement):
    # Bodies are lists, and a list that is told must not be one of the program that was handed in.
    return with_bodies(statement, [copied_body(inner) for inner in bodies_in(statement)])


def copied_body(body):
    return [copied_statement(statement) for statement in body]


def with_bodies(statement, bodies):
    return statement[:len(statement) - len(bodies)] + tuple(bodies)
