"""Texts taken apart line by line into trees of rows."""

from piercednames.contents import STRENGTHS
from piercednames.errors import BadText
from piercednames.tokens import tokens_of
from piercednames.words import is_name, read_numeral

WEAKEST = 1
WHYS = {"bad sign": "sign", "bad number": "number", "bad word": "word"}


class Parsing:
    """The tree of rows of a text, in which names stand in the place of ids, as labels do in make.

    tree: the rows. declared and used: the pairs (line, place) of the names that declare and of
    those that use, in reading order.
    """

    def __init__(self):
        self.tree = []
        self.declared = []
        self.used = []
        self._line = 0
        self._tokens = []
        self._at = 0
        # Each block that is not ended: its rows, and those of the second half if it is a first one.
        self._blocks = [(self.tree, None)]

    def begin_line(self, index, line):
        """Begins a line; returns whether it has tokens."""
        self._line = index
        self._tokens = tokens_of(line)
        self._at = 0
        return self.next_kind() != "end"

    def next_kind(self):
        """The kind of the token that is read next."""
        return self._tokens[self._at][1]

    def next_text(self):
        """The text of the token that is read next, the empty string for none and for a bad one."""
        return self._tokens[self._at][2]

    def sees(self, text):
        """Whether the next token is this word or sign."""
        return self.next_text() == text

    def refuse(self):
        """Raises that the next token is wrong, or cannot stand there."""
        place, kind, _ = self._tokens[self._at]
        raise BadText(self._line, place, WHYS.get(kind, "form"))

    def pass_over(self):
        """Takes the next token; returns its text."""
        text = self.next_text()
        self._at += 1
        return text

    def take(self, text):
        """Takes the next token, which must be this word or sign."""
        if not self.sees(text):
            self.refuse()
        self.pass_over()

    def end_line(self):
        """Demands that the line has no further token."""
        if self.next_kind() != "end":
            self.refuse()

    def take_name(self, places):
        """Takes a name, and notes its place in a list; returns it."""
        place, _, text = self._tokens[self._at]
        if not is_name(text):
            self.refuse()
        places.append((self._line, place))
        return self.pass_over()

    def add_row(self, row):
        """Adds a row to the newest block."""
        rows, _ = self._blocks[-1]
        rows.append(row)

    def begin_block(self, rows, second):
        """Begins a block with a list for its rows, and one for those of the second half, or None."""
        self._blocks.append((rows, second))

    def is_within(self):
        """Whether a block other than the root is not ended."""
        return len(self._blocks) > 1

    def end_block(self):
        """Ends the newest block; returns the list for the rows of the second half, or None."""
        _, second = self._blocks.pop()
        return second


def parse(text):
    """The Parsing of a string; raises BadText for the first fault of its lines, or its end."""
    parsing = Parsing()
    lines = text.split("\n")
    for index, line in enumerate(lines):
        if parsing.begin_line(index, line):
            parse_line(parsing)
    if parsing.is_within():
        raise BadText(len(lines) - 1, len(lines[-1]), "end")
    return parsing


def parse_line(parsing):
    """Takes a line with tokens."""
    form = FORMS.get(parsing.next_text())
    if form is None or (parsing.sees("}") and not parsing.is_within()):
        parsing.refuse()
    parsing.pass_over()
    form(parsing)
    parsing.end_line()


def parse_let(parsing):
    name = parsing.take_name(parsing.declared)
    parsing.take("=")
    parsing.add_row(("let", name, parse_expression(parsing)))


def parse_set(parsing):
    name = parsing.take_name(parsing.used)
    parsing.take("=")
    parsing.add_row(("set", name, parse_expression(parsing)))


def parse_out(parsing):
    parsing.add_row(("out", parse_expression(parsing)))


def parse_read(parsing):
    parsing.add_row(("read", parsing.take_name(parsing.used)))


def parse_do(parsing):
    name = parsing.take_name(parsing.used)
    parsing.add_row(("do", name, parse_items(parsing, parse_expression)))


def parse_def(parsing):
    name = parsing.take_name(parsing.declared)
    parameters = parse_items(parsing, parse_parameter)
    rows = []
    add_with_block(parsing, ("def", name, parameters, rows), rows, None)


def parse_if(parsing):
    expression = parse_expression(parsing)
    first = []
    second = []
    add_with_block(parsing, ("if", expression, first, second), first, second)


def parse_repeat(parsing):
    expression = parse_expression(parsing)
    rows = []
    add_with_block(parsing, ("repeat", expression, rows), rows, None)


def parse_block(parsing):
    rows = []
    add_with_block(parsing, ("block", rows), rows, None)


def add_with_block(parsing, row, rows, second):
    """Adds a row whose line ends with the beginning of its first block."""
    parsing.take("{")
    parsing.add_row(row)
    parsing.begin_block(rows, second)


def parse_block_end(parsing):
    second = parsing.end_block()
    if second is not None and parsing.sees("else"):
        parsing.pass_over()
        parsing.take("{")
        parsing.begin_block(second, None)


def parse_parameter(parsing):
    return parsing.take_name(parsing.declared)


def parse_items(parsing, parse_item):
    """Takes zero or more items in parentheses, with commas between; returns their tuple."""
    items = []
    parsing.take("(")
    if not parsing.sees(")"):
        items.append(parse_item(parsing))
        while parsing.sees(","):
            parsing.pass_over()
            items.append(parse_item(parsing))
    parsing.take(")")
    return tuple(items)


def parse_expression(parsing):
    """Takes the longest expression; returns it with names and values as leaves."""
    operands = []
    signs = []
    ends = 0
    while True:
        while parsing.sees("("):
            signs.append(parsing.pass_over())
            ends += 1
        operands.append(parse_leaf(parsing))
        while ends > 0 and parsing.sees(")"):
            join_operands(operands, signs, WEAKEST)
            signs.pop()
            parsing.pass_over()
            ends -= 1
        if parsing.next_text() not in STRENGTHS:
            break
        join_operands(operands, signs, STRENGTHS[parsing.next_text()])
        signs.append(parsing.pass_over())
    if ends > 0:
        parsing.refuse()
    join_operands(operands, signs, WEAKEST)
    return operands[0]


def parse_leaf(parsing):
    if parsing.next_kind() == "number":
        return read_numeral(parsing.pass_over())
    return parsing.take_name(parsing.used)


def join_operands(operands, signs, strength):
    """Joins the last operands by the last signs, as long as these bind at least so tightly."""
    # A parenthesis that is not ended holds back all signs ahead of it.
    while signs and STRENGTHS.get(signs[-1], 0) >= strength:
        right = operands.pop()
        left = operands.pop()
        operands.append((signs.pop(), left, right))


FORMS = {
    "let": parse_let,
    "set": parse_set,
    "out": parse_out,
    "read": parse_read,
    "do": parse_do,
    "def": parse_def,
    "if": parse_if,
    "repeat": parse_repeat,
    "block": parse_block,
    "}": parse_block_end,
}
