"""Values and programs that several tests use."""

import random

from piercednames.making import make
from piercednames.namings import count_namings, fewest_names, nth_naming
from piercednames.programs import Program
from piercednames.stretches import Table

SIGNS = ("+", "-", "*", "<")
ALL_KINDS = "let let set out read do def if repeat block"
MANY_CALLS = "let let out do do do do def def def if repeat block"


def empty_program():
    return Program(("", 0), {}, {}, {}, {})


def odd_values():
    """Values of all kinds, none of which is a name, and none an id of a program that is used here."""
    return [
        None, True, False, 0, 1, 2, -1, 10 ** 30, "", "Ann", "seventh", "let", "a b", ".2", "x.1", "\n",
        (), ("",), ("", 2, 3), ("", True), ("", False), ("", -1), ("", "2"), ("", None), ("Ann", 2),
        ("let", 2), ("seventh", 2), (0, 2), (2, ""), (("", 2),), (("", 2), ("", 2)), ("zz", 2), ("", 9999),
        ("", (2,)), ("", [2]), [], [""], ["", 2], [("", 2)], {}, {"": 2}, {("", 2): "x"}, ("use", ("", 2)),
        empty_program(), (empty_program(),), [[[[[[[["", 2]]]]]]]],
    ]


class TreeMaker:
    """Makes random trees for make, with rows that are well kept, and names that may be wrong."""

    def __init__(self, seed, rows=25, depth=4, kinds=ALL_KINDS):
        self.random = random.Random(seed)
        self.kinds = kinds.split()
        self.left = rows
        self.depth = depth
        self.labels = 0
        self.procedures = {}

    def label(self):
        self.labels += 1
        text = ""
        number = self.labels
        while number:
            number, letter = divmod(number, 26)
            text = "abcdefghijklmnopqrstuvwxyz"[letter] + text
        return "q" + text

    def tree(self):
        return self.rows([], [], self.depth)

    def rows(self, variables, procedures, depth):
        many = self.random.randint(0, 6)
        kinds = [self.random.choice(self.kinds) for _ in range(many)]
        # Declarations are seen in their whole block: their labels are known ahead of the rows.
        own = [self.label() for _ in range(many)]
        counts = [self.random.randint(0, 3) for _ in range(many)]
        variables = variables + [own[k] for k in range(many) if kinds[k] == "let"]
        procedures = procedures + [(own[k], counts[k]) for k in range(many) if kinds[k] == "def"]
        rows = []
        for kind, label, count in zip(kinds, own, counts):
            if self.left <= 0 and kind not in ("let", "def"):
                continue
            self.left -= 1
            row = self.row(kind, label, count, variables, procedures, depth)
            if row is not None:
                rows.append(row)
        return rows

    def row(self, kind, label, count, variables, procedures, depth):
        if kind == "let":
            return ("let", label, self.expression(variables, 3))
        if kind == "set" and variables:
            return ("set", self.random.choice(variables), self.expression(variables, 3))
        if kind == "read" and variables:
            return ("read", self.random.choice(variables))
        if kind == "do" and procedures:
            name, many = self.random.choice(procedures)
            return ("do", name, tuple(self.expression(variables, 2) for _ in range(many)))
        if kind == "def":
            parameters = tuple(self.label() for _ in range(count))
            rows = self.inner(variables + list(parameters), procedures, depth)
            return ("def", label, parameters, rows)
        if kind == "if":
            halves = [self.inner(variables, procedures, depth) for _ in range(2)]
            return ("if", self.expression(variables, 3), *halves)
        if kind == "repeat":
            return ("repeat", self.expression(variables, 2), self.inner(variables, procedures, depth))
        if kind == "block":
            return ("block", self.inner(variables, procedures, depth))
        return ("out", self.expression(variables, 4))

    def inner(self, variables, procedures, depth):
        if depth == 0 or self.left <= 0:
            return []
        return self.rows(variables, procedures, depth - 1)

    def expression(self, variables, depth):
        if depth == 0 or self.random.random() < 0.4:
            if variables and self.random.random() < 0.6:
                return self.random.choice(variables)
            return self.random.choice([0, 1, 2, 10, 999999])
        sides = [self.expression(variables, depth - 1) for _ in range(2)]
        return (self.random.choice(SIGNS), *sides)


def random_tree(seed, rows=25, depth=4, kinds=ALL_KINDS):
    return TreeMaker(seed, rows, depth, kinds).tree()


def random_program(seed, rows=25, depth=4, owner="", kinds=ALL_KINDS):
    """A random program, all of whose declarations have different names."""
    return make(random_tree(seed, rows, depth, kinds), owner=owner)


def named_by_chance(program, seed, letters):
    """The program with names that are any of these letters, right or wrong."""
    source = random.Random(seed)
    return program.renamed({thing: source.choice(letters) for thing in program.declarations()})


def wrong_programs(many, rows=25, depth=4, letters=("a", "ab", "abc", "abcd")):
    """Random programs whose names are out of few letters."""
    programs = []
    for seed in range(many):
        program = random_program(seed, rows, depth)
        programs.append(named_by_chance(program, seed, letters[seed % len(letters)]))
    return programs


def single_programs(many, rows=25, depth=4, kinds=MANY_CALLS, letters=3):
    """Random programs in which no block declares a name twice, with few names."""
    programs = []
    for seed in range(many):
        program = random_program(seed, rows, depth, kinds=kinds)
        source = random.Random(seed)
        names, taken = {}, {}
        for thing in program.declarations():
            used = taken.setdefault(program.block_of(thing), [])
            names[thing] = source.choice([letter for letter in "abcdefghijklmnopqrst" if letter not in used][:letters])
            used.append(names[thing])
        programs.append(program.renamed(names))
    return programs


def right_programs(many, rows=30, depth=4, kinds=MANY_CALLS, spare=0):
    """Random programs with right names, as few as there can be and some to spare."""
    programs = []
    for seed in range(many * 20):
        if len(programs) == many:
            return programs
        program = random_program(seed, rows, depth, kinds=kinds)
        if len(program) < 8:
            continue
        table = Table(program)
        names = list("abcdefghijklmnopqrst")[:fewest_names(table) + spare]
        number = random.Random(seed).randrange(count_namings(table, names))
        programs.append(program.renamed(nth_naming(table, names, number)))
    return programs
