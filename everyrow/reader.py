"""A program's text made into the program, or refused."""

from everyrow.errors import Full, NoBox, NoMeasure, NoPlace, NoRow, Open, TooDeep, TooLong, Twice
from everyrow.words import expression, is_name, is_number, names_in

MOST_ROWS = 80
MOST_BOXES = 4
MOST_DEEP = 5
LEAST_SIZE = 2
MOST_SIZE = 10
WORD_COUNTS = {
    "box": 4,
    "ask": 2,
    "put": 3,
    "say": 2,
    "must": 4,
    "if": 4,
    "else": 1,
    "while": 4,
    "end": 1,
    "stop": 1,
}


def read(text):
    rows = text.split("\n")
    if len(rows) > MOST_ROWS:
        raise TooLong("more rows than a program may have")
    draft = Draft()
    for number, row in enumerate(rows, start=1):
        take_row(draft, number, form_of(row))
    if draft.nest:
        raise Open("a body that is not ended")
    return (draft.boxes, draft.body)


class Draft:
    def __init__(self):
        self.boxes = []
        self.body = []
        # The open bodies, the innermost last, each with the body that an else would begin, or None.
        self.nest = []

    def innermost(self):
        if self.nest:
            return self.nest[-1][0]
        return self.body

    def second_body(self):
        if self.nest:
            return self.nest[-1][1]
        return None

    def box_names(self):
        return [box[0] for box in self.boxes]


def form_of(row):
    words = row.split(" ")
    word = words[0]
    if WORD_COUNTS.get(word, 0) != len(words):
        raise NoRow("a row of no such form")
    if word == "box":
        return box_form(words)
    if word == "ask":
        return ("ask", name_from(words[1]))
    if word == "put":
        return ("put", name_from(words[1]), expression(words[2]))
    if word == "say":
        return ("say", expression(words[1]))
    if word in ("must", "if", "while"):
        return condition_form(words)
    return (word,)


def box_form(words):
    return ("box", name_from(words[1]), number_from(words[2]), number_from(words[3]))


def condition_form(words):
    if words[2] not in ("<", "="):
        raise NoRow("a condition without its sign")
    return (words[0], words[2], expression(words[1]), expression(words[3]))


def name_from(word):
    if not is_name(word):
        raise NoRow("a word that is no name")
    return word


def number_from(word):
    if not is_number(word):
        raise NoRow("a word that is no number")
    return int(word)


def take_row(draft, number, form):
    word = form[0]
    if word == "box":
        take_box(draft, number, form[1:])
    elif word == "else":
        take_else(draft, number)
    elif word == "end":
        take_end(draft, number)
    else:
        take_statement(draft, number, form)


def take_box(draft, number, box):
    if draft.body:
        raise NoPlace(f"row {number}: a box behind a statement")
    if not is_measured(box[1], box[2]):
        raise NoMeasure(f"row {number}: a number out of its bounds")
    if box[0] in draft.box_names():
        raise Twice(f"row {number}: a box with the name of one ahead")
    if len(draft.boxes) == MOST_BOXES:
        raise Full(f"row {number}: more boxes than a program may have")
    draft.boxes.append(box)


def is_measured(size, first):
    return LEAST_SIZE <= size <= MOST_SIZE and first < size


def take_else(draft, number):
    second = draft.second_body()
    if second is None:
        raise NoPlace(f"row {number}: an else that is in no first body of an if")
    draft.nest.pop()
    draft.nest.append((second, None))


def take_end(draft, number):
    if not draft.nest:
        raise NoPlace(f"row {number}: an end while no body is open")
    draft.nest.pop()


def take_statement(draft, number, form):
    word = form[0]
    if word in ("if", "while") and len(draft.nest) == MOST_DEEP:
        raise TooDeep(f"row {number}: a body within too many others")
    names = draft.box_names()
    for name in names_of_form(form):
        if name not in names:
            raise NoBox(f"row {number}: {name} is no box")
    bodies = bodies_for(word)
    draft.innermost().append((word, number) + form[1:] + tuple(bodies))
    if word == "if":
        draft.nest.append((bodies[0], bodies[1]))
    elif word == "while":
        draft.nest.append((bodies[0], None))


def names_of_form(form):
    word = form[0]
    if word == "ask":
        return [form[1]]
    if word == "put":
        return [form[1]] + names_in(form[2])
    if word == "say":
        return names_in(form[1])
    if word == "stop":
        return []
    return names_in(form[2]) + names_in(form[3])


def bodies_for(word):
    if word == "if":
        return [[], []]
    if word == "while":
        return [[]]
    return []
