"""Names, numbers and expressions, and what an expression is worth."""

from everyrow.errors import NoRow

LETTERS = "abcdefghijklmnopqrstuvwxyz"
FIGURES = "0123456789"
NO_NAMES = ("box", "ask", "put", "say", "if", "else", "while", "must", "stop", "end")
MOST_LETTERS = 8
MOST_FIGURES = 3
MOST_SIGNS = 60
MOST_BRACKETS = 5


def is_of(word, signs):
    return all([sign in signs for sign in word])


def is_name(word):
    return 1 <= len(word) <= MOST_LETTERS and is_of(word, LETTERS) and word not in NO_NAMES


def is_number(word):
    # The length is looked at first: Python makes no whole number of a text of some thousand figures.
    return 1 <= len(word) <= MOST_FIGURES and is_of(word, FIGURES) and (word == "0" or word[0] != "0")


def expression(word):
    # The length bounds how deep the reading below can go, so it is looked at ahead of all else.
    if len(word) > MOST_SIGNS:
        raise NoRow("an expression of too many signs")
    pieces = Pieces(word)
    e = sum_from(pieces, 0)
    if pieces.ahead() != "":
        raise NoRow("an expression that does not end where it should")
    return e


def worth(e, values):
    kind = e[0]
    if kind == "number":
        return e[1]
    if kind == "box":
        return values[e[1]]
    left = worth(e[1], values)
    right = worth(e[2], values)
    if kind == "+":
        return left + right
    if kind == "-":
        return left - right
    return left * right


def names_in(e):
    if e[0] == "number":
        return []
    if e[0] == "box":
        return [e[1]]
    return names_in(e[1]) + names_in(e[2])


class Pieces:
    def __init__(self, word):
        self.pieces = pieces_of(word)
        self.place = 0

    def ahead(self):
        # No piece is without signs, so such a text can tell that none is left.
        if self.place == len(self.pieces):
            return ""
        return self.pieces[self.place]

    def take(self):
        piece = self.ahead()
        if piece == "":
            raise NoRow("an expression that ends too early")
        self.place += 1
        return piece


def pieces_of(word):
    pieces = []
    before = ""
    for sign in word:
        kind = kind_of(sign)
        if kind != "sign" and kind == before:
            pieces[-1] = pieces[-1] + sign
        else:
            pieces.append(sign)
        before = kind
    return pieces


def kind_of(sign):
    if sign in LETTERS:
        return "letter"
    if sign in FIGURES:
        return "figure"
    return "sign"


def sum_from(pieces, depth):
    e = product_from(pieces, depth)
    while pieces.ahead() in ("+", "-"):
        sign = pieces.take()
        e = (sign, e, product_from(pieces, depth))
    return e


def product_from(pieces, depth):
    e = factor_from(pieces, depth)
    while pieces.ahead() == "*":
        sign = pieces.take()
        e = (sign, e, factor_from(pieces, depth))
    return e


def factor_from(pieces, depth):
    piece = pieces.take()
    if is_number(piece):
        return ("number", int(piece))
    if is_name(piece):
        return ("box", piece)
    if piece != "(":
        raise NoRow("an expression with something else where a factor should be")
    return bracket_from(pieces, depth + 1)


def bracket_from(pieces, depth):
    if depth > MOST_BRACKETS:
        raise NoRow("an expression with too many brackets within one another")
    e = sum_from(pieces, depth)
    if pieces.take() != ")":
        raise NoRow("an expression with a bracket that is not closed")
    return e
