"""Random edits of programs, most of which can be done."""

import random

from piercednames.drafts import Draft
from piercednames.errors import Missing, NamesError
from piercednames.programs import Program

SIGNS = ("+", "-", "*", "<")
WORDS = "rename put put put put drop move move move turn turn value lift lift inline inline hoist wrap unwrap".split()
NAMES = ("a", "b", "c", "x", "first")


class Editor:
    """Makes random edits for a program; wrong tells how often an id is any id."""

    def __init__(self, seed, wrong=0.05, words=WORDS):
        self.source = random.Random(seed)
        self.wrong = wrong
        self.words = words

    def pick(self, things, program):
        if not things or self.source.random() < self.wrong:
            return self.source.choice([*program.things(), ("", 999), ("zoe", 1)])
        return self.source.choice(things)

    def edit(self, program, person, start):
        word = self.source.choice(self.words)
        return getattr(self, "make_" + word)(program, person, start)

    def name(self):
        return self.source.choice(NAMES)

    def make_rename(self, program, person, start):
        return ("rename", self.pick(program.declarations(), program), self.name())

    def make_value(self, program, person, start):
        return ("value", self.pick(program.numerals(), program), self.source.choice([0, 1, 2, 3, 999999]))

    def make_drop(self, program, person, start):
        # Rows without anything that is used go more often.
        rows = program.rows()
        free = [row for row in rows if program.content(row)[0] in ("set", "read", "out", "do")]
        return ("drop", self.pick(free if self.source.random() < 0.6 else rows, program))

    def make_move(self, program, person, start):
        block = self.pick(program.blocks(), program)
        return ("move", self.pick(program.rows(), program), block, self.after(program, block))

    def after(self, program, block):
        rows = program.rows_of(block) if program.kind_of(block) == "block" else []
        if not rows or self.source.random() < 0.3:
            return None
        return self.pick(rows, program)

    def seen(self, program, block, many):
        """The declarations in reach of a block with so many parameters, -1 for variables."""
        if program.kind_of(block) != "block":
            return program.declarations()
        found = []
        for thing in program.declarations():
            parameters = program.parameters(thing)
            if many == (-1 if parameters is None else len(parameters)) and program.reaches(block, thing):
                found.append(thing)
        return found

    def make_turn(self, program, person, start):
        use = self.pick(program.uses(), program)
        if program.kind_of(use) != "use":
            return ("turn", use, self.pick(program.declarations(), program))
        parameters = program.parameters(program.meaning(use))
        many = -1 if parameters is None else len(parameters)
        return ("turn", use, self.pick(self.seen(program, program.block_of(use), many), program))

    def expression(self, program, variables, depth=2):
        roll = self.source.random()
        if depth and roll < 0.3:
            sides = [self.expression(program, variables, depth - 1) for _ in range(2)]
            return (self.source.choice(SIGNS), *sides)
        if variables and roll < 0.8:
            return ("use", self.pick(variables, program))
        return self.source.choice([0, 1, 2, 5])

    def make_put(self, program, person, start):
        block = self.pick(program.blocks(), program)
        after = self.after(program, block)
        variables = self.seen(program, block, -1)
        word = self.source.choice("let let set out out read do do def if repeat block".split())
        if word == "let":
            variables = [*variables, (person, start + 1)]
        if word in ("set", "read") and not variables:
            word = "out"
        return ("put", block, after, self.sketch(program, block, variables, word))

    def sketch(self, program, block, variables, word):
        if word == "let":
            return (word, self.name(), self.expression(program, variables))
        if word == "set":
            return (word, self.pick(variables, program), self.expression(program, variables))
        if word == "read":
            return (word, self.pick(variables, program))
        if word == "do":
            many = self.source.randint(0, 3)
            found = self.seen(program, block, many)
            if found:
                return (word, self.pick(found, program), tuple(self.expression(program, variables) for _ in range(many)))
            return ("out", self.expression(program, variables))
        if word == "def":
            return (word, self.name(), tuple(self.name() for _ in range(self.source.randint(0, 3))))
        if word == "block":
            return (word,)
        return (word, self.expression(program, variables))

    def run_of_rows(self, program):
        row = self.pick(program.rows(), program)
        many = self.source.choice([1, 1, 2, 3])
        if program.kind_of(row) == "row" and self.source.random() < 0.5:
            rows = program.rows_of(program.block_of(row))
            many = len(rows) - rows.index(row) + self.source.choice([0, 0, 0, 1])
        return row, many

    def make_lift(self, program, person, start):
        return ("lift", *self.run_of_rows(program), self.name())

    def make_wrap(self, program, person, start):
        return ("wrap", *self.run_of_rows(program))

    def of_word(self, program, word):
        return [row for row in program.rows() if program.content(row)[0] == word]

    def make_inline(self, program, person, start):
        return ("inline", self.pick(self.of_word(program, "do"), program))

    def make_unwrap(self, program, person, start):
        return ("unwrap", self.pick(self.of_word(program, "block"), program))

    def make_hoist(self, program, person, start):
        row = self.pick(self.of_word(program, "def"), program)
        blocks = program.blocks()
        if program.kind_of(row) == "row":
            blocks = program.path(program.block_of(row))[1:]
        return ("hoist", row, self.pick(blocks, program))


def drafted(base, person, seed, many, words=WORDS, most=80):
    """A draft in which so many random edits were tried."""
    editor = Editor(seed, 0.02, words)
    draft = Draft(base, person)
    for _ in range(many):
        edit = editor.edit(draft.result(), person, draft.next_number)
        try:
            draft.edit(edit)
        except (NamesError, Missing):
            continue
        if len(draft.result()) > most:
            draft.undo()
    return draft


def crowded(program, seed):
    """The program with some rows of one block at one position."""
    source = random.Random(seed)
    root, rows, names, meanings, values = program.state()
    for block in program.blocks():
        inside = program.rows_of(block)
        for row, other in zip(inside, inside[1:]):
            if source.random() < 0.3:
                rows[other] = (block, rows[row][1], rows[other][2])
    return Program(root, rows, names, meanings, values)
