"""Expressions: which texts they are, where the others have their fault, and what they come to.

A text is a list of bytes. It is first read whole into steps, since a fault counts before a division by 0. A step is a
word and a number; the steps are taken one after another on a pile of rows, each with the topmost one or two of it.
"""

from rootrows.reckoning import added, inverse_of, is_zero, multiplied, negated, one_form, raised, root_row, whole_row

SPACE = 32
OPENING = 40
CLOSING = 41
STAR = 42
PLUS = 43
MINUS = 45
SLASH = 47
DIGIT_0 = 48
DIGIT_9 = 57
CARET = 94
LETTER_X = 120
# What is ahead behind the last byte; no byte is as great.
END = 256

MOST_DIGITS = 9
MOST_DIGITS_OF_POWER = 2
DEEPEST = 16


class Fault(ValueError):
    """The text is no expression; the place is that of its fault."""

    def __init__(self, place):
        self.place = place


class Reader:
    """Reads a text from the left; each rule of the grammar is a method."""

    def __init__(self, text):
        self.text = text
        self.place = 0
        self.depth = 0
        self.steps = []

    def read_text(self):
        self.read_sum()
        if self.ahead() != END:
            raise Fault(self.place)

    def read_sum(self):
        self.read_product()
        while self.ahead() in (PLUS, MINUS):
            word = "add" if self.ahead() == PLUS else "subtract"
            self.place += 1
            self.read_product()
            self.steps.append((word, 0))

    def read_product(self):
        self.read_power()
        while self.ahead() in (STAR, SLASH):
            word = "multiply" if self.ahead() == STAR else "divide"
            self.place += 1
            self.read_power()
            self.steps.append((word, 0))

    def read_power(self):
        self.read_atom()
        if self.ahead() == CARET:
            self.place += 1
            self.steps.append(("raise", self.read_digits(MOST_DIGITS_OF_POWER)))

    def read_atom(self):
        """Calls itself at most as often as ( and - may be open."""
        if self.ahead() == LETTER_X:
            self.place += 1
            self.steps.append(("x", 0))
        elif self.ahead() == OPENING:
            self.go_deeper()
            self.read_sum()
            if self.ahead() != CLOSING:
                raise Fault(self.place)
            self.place += 1
            self.depth -= 1
        elif self.ahead() == MINUS:
            self.go_deeper()
            self.read_atom()
            self.depth -= 1
            self.steps.append(("negate", 0))
        else:
            self.steps.append(("number", self.read_digits(MOST_DIGITS)))

    def go_deeper(self):
        if self.depth == DEEPEST:
            raise Fault(self.place)
        self.depth += 1
        self.place += 1

    def read_digits(self, most):
        """The number that the digits ahead tell; there must be one at least, and as many as told at most."""
        if not is_digit(self.ahead()):
            raise Fault(self.place)
        start = self.place
        number = 0
        while self.place < len(self.text) and is_digit(self.text[self.place]):
            if self.place - start == most:
                raise Fault(self.place)
            number = number * 10 + self.text[self.place] - DIGIT_0
            self.place += 1
        return number

    def ahead(self):
        """The next byte that is no space. The place goes there, or to the end."""
        while self.place < len(self.text) and self.text[self.place] == SPACE:
            self.place += 1
        if self.place == len(self.text):
            return END
        return self.text[self.place]


def is_digit(byte):
    return DIGIT_0 <= byte <= DIGIT_9


def steps_of(text):
    """The steps of an expression; of another text the fault is raised."""
    reader = Reader(text)
    reader.read_text()
    return reader.steps


def row_after(field, steps):
    """A row of what the steps come to, None if they divide by 0."""
    pile = []
    for step in steps:
        word = step[0]
        if word == "number":
            pile.append(whole_row(step[1], len(field)))
        elif word == "x":
            pile.append(root_row(field))
        elif word == "negate":
            pile.append(negated(pile.pop()))
        elif word == "raise":
            pile.append(power_of(field, pile.pop(), step[1]))
        else:
            right = pile.pop()
            left = pile.pop()
            if word == "divide" and is_zero(right):
                return None
            pile.append(joined(field, word, left, right))
    return pile.pop()


def power_of(field, a, k):
    # In its one form a power is as short as can be; for k = 0 and 1 that would be for nothing.
    if k > 1:
        return raised(field, one_form(a), k)
    return raised(field, a, k)


def joined(field, word, left, right):
    """The sum, difference, product or quotient of two rows."""
    if word == "add":
        return added(left, right)
    if word == "subtract":
        return added(left, negated(right))
    if word == "multiply":
        return multiplied(field, left, right)
    # An inverse may have d times as many digits as its row, so divisions within divisions must be shortened.
    return multiplied(field, left, inverse_of(field, one_form(right)))
