"""The ids of the things of a tree of rows, in which labels and values stand in the place of ids.

A label is a string, or an id that a sketch has; in an expression such an id stands behind "use".
"""

from piercednames.contents import folded


class Numbering:
    """Gives the root and the things of a tree the ids (owner, start), (owner, start + 1) and so on.

    They get them in reading order. root: the root. placed: the dict from the rows to (block,
    position, content). declared and used: the dicts from the declarations and the uses to their
    labels, in reading order. told: the dict from the numerals to their values. behind: the number
    behind the last id.
    """

    def __init__(self, tree, owner, start=0):
        self._owner = owner
        self.behind = start
        self.placed = {}
        self.declared = {}
        self.used = {}
        self.told = {}
        self.root = self._fresh()
        # A stack in place of recursion, for a text may nest more blocks than calls can be nested.
        self._waiting = []
        self._enter(self.root, tree)
        while self._waiting:
            word, *rest = self._waiting.pop()
            if word == "row":
                self._number_row(*rest)
            else:
                self._number_second_half(*rest)

    def _fresh(self):
        thing = (self._owner, self.behind)
        self.behind += 1
        return thing

    def _enter(self, block, rows):
        for index in reversed(range(len(rows))):
            self._waiting.append(("row", block, index + 1, rows[index]))

    def _number_row(self, block, index, row):
        thing = self._fresh()
        self.placed[thing] = (block, (index, 1), self._content(thing, row))

    def _number_second_half(self, row, rows):
        block, position, (word, expression, first) = self.placed[row]
        second = self._fresh()
        self.placed[row] = (block, position, (word, expression, first, second))
        self._enter(second, rows)

    def _content(self, thing, row):
        word = row[0]
        if word == "let":
            return (word, self._declaration(row[1]), self._expression(row[2]))
        if word == "set":
            return (word, self._use(row[1]), self._expression(row[2]))
        if word == "read":
            return (word, self._use(row[1]))
        if word == "out":
            return (word, self._expression(row[1]))
        if word == "do":
            use = self._use(row[1])
            return (word, use, tuple([self._expression(argument) for argument in row[2]]))
        if word == "def":
            return self._definition(row)
        if word == "if":
            return self._first_half(thing, row)
        if word == "repeat":
            return (word, self._expression(row[1]), self._block(row[2]))
        return (word, self._block(row[1]))

    def _definition(self, row):
        word, label, labels, rows = row
        declaration = self._declaration(label)
        body = self._fresh()
        parameters = tuple([self._declaration(parameter) for parameter in labels])
        self._enter(body, rows)
        return (word, declaration, parameters, body)

    def _first_half(self, thing, row):
        word, expression, first, second = row
        expression = self._expression(expression)
        # The second half gets its id when the rows of the first half have theirs.
        self._waiting.append(("second half", thing, second))
        return (word, expression, self._block(first))

    def _block(self, rows):
        block = self._fresh()
        self._enter(block, rows)
        return block

    def _declaration(self, label):
        thing = self._fresh()
        self.declared[thing] = label
        return thing

    def _use(self, label):
        thing = self._fresh()
        self.used[thing] = label
        return thing

    def _leaf(self, leaf):
        if isinstance(leaf, str):
            return ("use", self._use(leaf))
        if isinstance(leaf, tuple):
            return ("use", self._use(leaf[1]))
        thing = self._fresh()
        self.told[thing] = leaf
        return ("number", thing)

    def _expression(self, expression):
        return folded(expression, self._leaf, lambda sign, left, right: (sign, left, right))
