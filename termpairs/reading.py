"""Reading a text: its order, its rules and its terms."""

from termpairs.refusals import NotWellMade
from termpairs.tokens import is_function, is_variable, tokens_of

MOST_LEVEL = 49
MOST_RULES = 64


class Rule:
    """A rule: the rows of its left and its right, their variables numbered as they come."""

    def __init__(self, left, right):
        self.left = left
        self.right = right


class Reader:
    """Tokens, taken one by one."""

    def __init__(self, tokens):
        self.tokens = tokens
        self.at = 0

    def at_end(self):
        return self.at == len(self.tokens)

    def sees(self, token):
        return not self.at_end() and self.tokens[self.at] == token

    def taken(self):
        if self.at_end():
            raise NotWellMade()
        self.at += 1
        return self.tokens[self.at - 1]

    def skip(self, token):
        if self.taken() != token:
            raise NotWellMade()


class Book:
    """What a well made text says."""

    def __init__(self):
        self.ranks = {}
        self.arities = {}
        self.rules = []
        self.terms = []

    def read_item(self, reader):
        word = reader.taken()
        if word == "order":
            self.read_order(reader)
        elif word == "rule":
            self.read_rule(reader)
        elif word == "term":
            self.read_term(reader)
        else:
            raise NotWellMade()

    def read_order(self, reader):
        while not reader.sees(";"):
            name = reader.taken()
            if not is_function(name) or name in self.ranks:
                raise NotWellMade()
            self.ranks[name] = len(self.ranks)
        reader.skip(";")

    def read_rule(self, reader):
        variables = {}
        left = self.read_row(reader, variables)
        on_left = len(variables)
        reader.skip("->")
        right = self.read_row(reader, variables)
        reader.skip(";")
        if isinstance(left[0][0], int) or len(variables) > on_left or len(self.rules) == MOST_RULES:
            raise NotWellMade()
        self.rules.append(Rule(left, right))

    def read_term(self, reader):
        row = self.read_row(reader, {})
        reader.skip(";")
        self.terms.append(row)

    def read_row(self, reader, variables):
        row = row_read(reader)
        for name, count in row:
            if is_function(name) and self.arities.setdefault(name, count) != count:
                raise NotWellMade()
        return numbered(row, variables)

    def check_order(self):
        for name in self.arities:
            if name not in self.ranks:
                raise NotWellMade()


def book_of(numbers):
    """What the text says whose bytes these are."""
    reader = Reader(tokens_of(numbers))
    book = Book()
    while not reader.at_end():
        book.read_item(reader)
    book.check_order()
    return book


def row_read(reader):
    """The row of the term that comes next, its variables still names."""
    row = []
    bracketed = []
    while True:
        row.append((name_read(reader, len(bracketed)), 0))
        if is_function(row[-1][0]) and reader.sees("("):
            reader.skip("(")
            bracketed.append(len(row) - 1)
            continue
        count_part(row, bracketed)
        while bracketed and reader.sees(")"):
            reader.skip(")")
            bracketed.pop()
            count_part(row, bracketed)
        if not bracketed:
            return row
        reader.skip(",")


def name_read(reader, level):
    name = reader.taken()
    if level > MOST_LEVEL or not (is_variable(name) or is_function(name)):
        raise NotWellMade()
    return name


def count_part(row, bracketed):
    """Counts a term that has ended for the function whose bracket it stands in."""
    if bracketed:
        sign = row[bracketed[-1]]
        row[bracketed[-1]] = (sign[0], sign[1] + 1)


def numbered(row, variables):
    """The row with numbers for its variables; those that are new come behind the known ones."""
    made = []
    for name, count in row:
        if is_variable(name):
            made.append((variables.setdefault(name, len(variables)), count))
        else:
            made.append((name, count))
    return made
