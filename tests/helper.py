"""What several tests need."""

import itertools
import random

from everyrow.reader import read


def lists_in(value):
    found = [value] if isinstance(value, list) else []
    if isinstance(value, (list, tuple)):
        for part in value:
            found.extend(lists_in(part))
    return found


def are_all_unlike(*values):
    """Whether no two of the lists within the values are one."""
    every = [one for value in values for one in lists_in(value)]
    return len({id(one) for one in every}) == len(every)


def program_of(*rows):
    return read("\n".join(rows))


def counted(ahead):
    """A program with as many standings as ahead and 1981."""
    rows = ["box a 10 0", "box b 10 0"] + ["say 0"] * ahead + ["ask a"] + ["say 1"] * 7 + ["ask b"] + ["say 2"] * 18
    return program_of(*rows)


def inputs_to(length):
    """All inputs of at most so many figures, in the order of how few they are and then of the figures."""
    for count in range(length + 1):
        for figures in itertools.product(range(10), repeat=count):
            yield list(figures)


# Runs once more: by going through the bodies, not from row to row by the flow.

def worth_again(e, values):
    if e[0] == "number":
        return e[1]
    if e[0] == "box":
        return values[e[1]]
    left, right = worth_again(e[1], values), worth_again(e[2], values)
    return {"+": left + right, "-": left - right, "*": left * right}[e[0]]


def walked(program, figures):
    """A tuple (standing, figures taken, note) for each standing in turn, maybe for ever."""
    boxes, body = program
    walk = {"values": {name: first for name, size, first in boxes}, "taken": 0, "figures": list(figures),
            "sizes": {name: size for name, size, first in boxes}}
    ended = yield from walked_body(body, walk)
    if ended in (None, "stop"):
        yield noted(0, walk, "end")


def noted(row, walk, note):
    return (row, tuple(walk["values"].values())), walk["taken"], note


def walked_body(body, walk):
    for statement in body:
        ended = yield from walked_statement(statement, walk)
        if ended:
            return ended
    return None


def walked_statement(statement, walk):
    word, row = statement[:2]
    values = walk["values"]
    if word == "ask":
        if walk["taken"] == len(walk["figures"]):
            yield noted(row, walk, "out")
            return "out"
        yield noted(row, walk, None)
        walk["taken"] += 1
        values[statement[2]] = walk["figures"][walk["taken"] - 1] % walk["sizes"][statement[2]]
    elif word == "put":
        yield noted(row, walk, None)
        values[statement[2]] = worth_again(statement[3], values) % walk["sizes"][statement[2]]
    elif word == "say":
        yield noted(row, walk, worth_again(statement[2], values))
    elif word == "stop":
        yield noted(row, walk, None)
        return "stop"
    elif word == "must":
        truth = holds_again(statement, values)
        yield noted(row, walk, "ok" if truth else "must")
        return None if truth else "must"
    elif word == "if":
        truth = holds_again(statement, values)
        yield noted(row, walk, truth)
        return (yield from walked_body(statement[5 if truth else 6], walk))
    else:
        return (yield from walked_while(statement, walk))
    return None


def walked_while(statement, walk):
    while True:
        truth = holds_again(statement, walk["values"])
        yield noted(statement[1], walk, truth)
        if not truth:
            return None
        ended = yield from walked_body(statement[5], walk)
        if ended:
            return ended


def holds_again(statement, values):
    left, right = worth_again(statement[3], values), worth_again(statement[4], values)
    return left < right if statement[2] == "<" else left == right


def walked_once(program, figures):
    """The same, until the run ends or comes to a standing again without a figure between."""
    seen, told = set(), []
    for standing, taken, note in walked(program, figures):
        if (standing, taken) in seen:
            break
        seen.add((standing, taken))
        told.append((standing, taken, note))
    return told


def run_again(program, figures, bound):
    rows, said = [], []
    for (row, values), taken, note in walked(program, figures):
        if row == 0:
            return rows, said, ("end",)
        if len(rows) == bound:
            return rows, said, ("on",)
        rows.append(row)
        if note == "out":
            return rows, said, ("out",)
        if note == "must":
            return rows, said, ("must", row)
        if isinstance(note, int) and not isinstance(note, bool):
            said.append(note)
    raise AssertionError("a run that ended by nothing")


def targets_met(program, figures):
    met = set()
    for (row, values), taken, note in walked_once(program, figures):
        met.add(("row", row) if row else ("end",))
        if isinstance(note, bool):
            met.add(("side", row, note))
        if note == "must":
            met.add(("must", row))
    return met


def words_by_row(body):
    told = {}
    for statement in body:
        told[statement[1]] = statement[0]
        for part in statement:
            if isinstance(part, list):
                told.update(words_by_row(part))
    return told


def sights_again(program, figures, most=300):
    """What is seen of a run, at most so many sights of it."""
    words, told, unseen = words_by_row(program[1]), [], set()
    for standing, taken, note in walked(program, figures):
        if len(told) == most:
            break
        if standing in unseen:
            told.append(("round",))
            break
        word = "end" if standing[0] == 0 else words[standing[0]]
        if word in ("end", "ask") or note == "must":
            told.append((word,))
        elif word == "say":
            told.append((word, note))
        unseen = set() if word in ("ask", "say") else unseen | {standing}
    return told


# Programs made by chance, but the same ones at each time.

class Maker:
    def __init__(self, seed, sizes=(2, 3, 4), most_boxes=2, most_statements=3, deepest=2, numbers=5):
        self.chance = random.Random(seed)
        self.sizes = sizes
        self.most_boxes = most_boxes
        self.most_statements = most_statements
        self.deepest = deepest
        self.numbers = numbers
        self.row = 0

    def program(self):
        boxes = []
        for name in "abcd"[:self.chance.randint(0, self.most_boxes)]:
            size = self.chance.choice(self.sizes)
            boxes.append((name, size, self.chance.randrange(size)))
        self.names = [box[0] for box in boxes]
        self.row = len(boxes)
        return boxes, self.body(0)

    def body(self, deep):
        return [self.statement(deep) for k in range(self.chance.randint(0 if deep else 1, self.most_statements))]

    def statement(self, deep):
        self.row += self.chance.choice((1, 1, 1, 2, 7))
        words = ["say", "must", "stop"] + ["ask", "put", "ask", "put"] * bool(self.names)
        words += ["if", "while", "if", "while"] * (deep < self.deepest)
        word, row = self.chance.choice(words), self.row
        if word == "stop":
            return word, row
        if word == "say":
            return word, row, self.expression(2)
        if word == "ask":
            return word, row, self.chance.choice(self.names)
        if word == "put":
            return word, row, self.chance.choice(self.names), self.expression(2)
        condition = (word, row, self.chance.choice("<="), self.expression(1), self.expression(1))
        if word == "must":
            return condition
        if word == "while":
            return condition + (self.body(deep + 1),)
        return condition + (self.body(deep + 1), self.body(deep + 1))

    def expression(self, deep):
        if deep and self.chance.random() < 0.4:
            return self.chance.choice("+-*"), self.expression(deep - 1), self.expression(deep - 1)
        if self.names and self.chance.random() < 0.6:
            return "box", self.chance.choice(self.names)
        return "number", self.chance.randrange(self.numbers)


def made_programs(count, seed, **measures):
    return [Maker(seed * 100000 + k, **measures).program() for k in range(count)]


def asking_first(program):
    """The program with an ask for each of its boxes ahead; the rows of the boxes are free for these."""
    boxes, body = program
    return boxes, [("ask", k, box[0]) for k, box in enumerate(boxes, start=1)] + body
