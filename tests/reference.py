"""What the document says of programs and texts, said a second time in another way: by recursion."""

import re
from fractions import Fraction

TIGHT = {"*": 3, "+": 2, "-": 2, "<": 1}
KEYWORDS = "let set out read do def if else repeat block".split()


# Programs, from their states.

def rows_in(state, block):
    root, rows, *_ = state
    inside = [row for row in rows if rows[row][0] == block]
    return sorted(inside, key=lambda row: (Fraction(*rows[row][1]), row))


def order(state):
    """The list of (kind, thing, block, row) of all things in reading order."""
    found = [("block", state[0], None, None)]
    for row in rows_in(state, state[0]):
        row_order(state, row, found)
    return found


def row_order(state, row, found):
    block, _, content = state[1][row]
    word = content[0]
    found.append(("row", row, block, None))
    if word == "let":
        found.append(("declaration", content[1], block, row))
        leaves(content[2], block, row, found)
    elif word == "set":
        found.append(("use", content[1], block, row))
        leaves(content[2], block, row, found)
    elif word == "read":
        found.append(("use", content[1], block, row))
    elif word == "out":
        leaves(content[1], block, row, found)
    elif word == "def":
        found.append(("declaration", content[1], block, row))
        found.append(("block", content[3], block, row))
        for parameter in content[2]:
            found.append(("declaration", parameter, content[3], row))
        block_order(state, content[3], found)
    elif word == "do":
        found.append(("use", content[1], block, row))
        for argument in content[2]:
            leaves(argument, block, row, found)
    else:
        inner = content[1:]
        if word in ("if", "repeat"):
            leaves(content[1], block, row, found)
            inner = content[2:]
        for child in inner:
            found.append(("block", child, block, row))
            block_order(state, child, found)


def block_order(state, block, found):
    for row in rows_in(state, block):
        row_order(state, row, found)


def leaves(expression, block, row, found):
    if expression[0] in ("use", "number"):
        found.append((expression[0], expression[1], block, row))
    else:
        leaves(expression[1], block, row, found)
        leaves(expression[2], block, row, found)


# Written texts, from trees for make.

def written(tree, names=None, depth=0):
    return "".join(written_row(row, names or {}, "  " * depth, depth) for row in tree)


def written_row(row, names, indent, depth):
    word, *rest = row

    def name(label):
        return names.get(label, label)

    def text(expression):
        return expression_text(expression, names)

    if word in ("let", "set"):
        return f"{indent}{word} {name(rest[0])} = {text(rest[1])}\n"
    if word == "out":
        return f"{indent}out {text(rest[0])}\n"
    if word == "read":
        return f"{indent}read {name(rest[0])}\n"
    if word == "do":
        return f"{indent}do {name(rest[0])}({', '.join(text(argument) for argument in rest[1])})\n"
    end = indent + "}\n"
    if word == "def":
        head = f"{indent}def {name(rest[0])}({', '.join(name(label) for label in rest[1])}) {{\n"
    elif word == "block":
        head = indent + "block {\n"
    else:
        head = f"{indent}{word} {text(rest[0])} {{\n"
    if word == "if" and len(rest[2]) > 0:
        end = indent + "} else {\n" + written(rest[2], names, depth + 1) + end
    inner = rest[1] if word == "if" else rest[-1]
    return head + written(inner, names, depth + 1) + end


def expression_text(expression, names):
    if not isinstance(expression, tuple):
        return str(names.get(expression, expression))
    sign, left, right = expression
    texts = []
    for operand, least in ((left, TIGHT[sign]), (right, TIGHT[sign] + 1)):
        text = expression_text(operand, names)
        if isinstance(operand, tuple) and TIGHT[operand[0]] < least:
            text = f"({text})"
        texts.append(text)
    return f"{texts[0]} {sign} {texts[1]}"


# Texts that are read: the uses with what the text declares for them, or the first fault.

class Fault(Exception):
    pass


def scanned(text, seen=None):
    """("uses", [(name, own)]) or ("fault", line, place, why)."""
    try:
        return ("uses", Reader(text, seen or {}).uses())
    except Fault as fault:
        return ("fault", *fault.args)


class Reader:
    def __init__(self, text, seen):
        self.seen = seen
        self.lines = text.split("\n")
        self.line = -1
        self.declared = []
        self.used = []
        self.blocks = [None]

    def uses(self):
        open_blocks = [(0, "root")]
        for self.line, line in enumerate(self.lines):
            self.rest = line
            self.place = 0
            self.skip()
            if self.rest:
                self.statement(open_blocks)
                if self.rest:
                    self.fail()
        if len(open_blocks) > 1:
            raise Fault(len(self.lines) - 1, len(self.lines[-1]), "end")
        return self.meanings()

    def meanings(self):
        known = {}
        for block, name, many, line, place in self.declared:
            if name in known.setdefault(block, {}):
                raise Fault(line, place, "twice")
            known[block][name] = many
        found = []
        for block, name, many, line, place in self.used:
            while block is not None and name not in known.get(block, {}):
                block = self.blocks[block]
            own = block is not None
            if not own and name not in self.seen:
                raise Fault(line, place, "unknown")
            if (known[block][name] if own else self.seen[name]) != many:
                raise Fault(line, place, "kind")
            found.append((name, own))
        return found

    def skip(self):
        stripped = self.rest.lstrip(" ")
        self.place += len(self.rest) - len(stripped)
        self.rest = stripped

    def fail(self):
        why = "form"
        if self.rest and not re.match(r"[a-z0-9=+\-*<(),{}]", self.rest):
            why = "sign"
        elif re.match(r"0[0-9]|[0-9]{7}", self.rest):
            why = "number"
        elif re.match(r"[a-z]{7}", self.rest):
            why = "word"
        raise Fault(self.line, self.place, why)

    def take(self, pattern):
        """Takes a token that is as a whole like the pattern; returns it, or None without one."""
        token = re.match(r"[a-z]+|[0-9]+|[=+\-*<(),{}]", self.rest)
        if not token or not re.fullmatch(pattern, token.group()):
            return None
        self.rest = self.rest[token.end():]
        self.place += token.end()
        self.skip()
        return token.group()

    def need(self, pattern):
        token = self.take(pattern)
        if token is None:
            self.fail()
        return token

    def name(self, block, noted, many):
        place = self.place
        word = self.need("(?!(" + "|".join(KEYWORDS) + ")$)[a-z]{1,6}")
        noted.append([block, word, many, self.line, place])
        return noted[-1]

    def new_block(self, open_blocks, kind):
        self.blocks.append(open_blocks[-1][0])
        open_blocks.append((len(self.blocks) - 1, kind))

    def statement(self, open_blocks):
        block = open_blocks[-1][0]
        if len(open_blocks) > 1 and self.take("}"):
            _, kind = open_blocks.pop()
            if kind == "first" and self.take("else"):
                self.need("{")
                self.new_block(open_blocks, "plain")
            return
        word = self.need("let|set|out|read|do|def|if|repeat|block")
        if word in ("let", "set"):
            self.name(block, self.declared if word == "let" else self.used, -1)
            self.need("=")
            self.expression(block)
        elif word == "read":
            self.name(block, self.used, -1)
        elif word == "do":
            use = self.name(block, self.used, 0)
            use[2] = self.listed(lambda: self.expression(block))
        elif word == "def":
            noted = self.name(block, self.declared, 0)
            body = len(self.blocks)
            noted[2] = self.listed(lambda: self.name(body, self.declared, -1))
            self.need("{")
            self.new_block(open_blocks, "plain")
        else:
            if word != "block":
                self.expression(block)
            if word != "out":
                self.need("{")
                self.new_block(open_blocks, "first" if word == "if" else "plain")

    def listed(self, item):
        self.need(r"\(")
        if self.take(r"\)"):
            return 0
        item()
        many = 1
        while self.take(","):
            item()
            many += 1
        self.need(r"\)")
        return many

    def expression(self, block):
        self.operand(block)
        while self.take(r"[+\-*<]"):
            self.operand(block)

    def operand(self, block):
        if self.take(r"\("):
            self.expression(block)
            self.need(r"\)")
        elif not self.take("0|[1-9][0-9]{0,5}"):
            self.name(block, self.used, -1)
