"""Random libraries, stacks of them, and clients."""

import random

from piercednames.libraries import Library, Stack
from piercednames.making import make
from piercednames.meaning import is_right
from piercednames.texts import read_text
from piercednames.writing import program_text
from tests.samples import TreeMaker

LETTERS = "abcdefg"


def random_library(name, seed):
    """A right library whose root declares few names, so that those of others are often the same."""
    source = random.Random(seed)
    while True:
        seed += 1000
        program = make(TreeMaker(seed, 12, 3, "let let def def do out set").tree())
        names = {}
        for thing in program.declarations():
            if program.block_of(thing) == program.root:
                free = [letter for letter in LETTERS if letter not in names.values()]
                if not free:
                    break
                names[thing] = source.choice(free)
        else:
            for thing in program.declarations():
                names.setdefault(thing, "in" + source.choice(LETTERS) + "hijklmnop"[len(names) % 9])
            program = program.renamed(names)
            if is_right(program) and len(program):
                return Library(name, program)


def random_stack(seed, most=3):
    source = random.Random(seed)
    names = source.sample(["base", "lib", "math", "text"], source.randint(0, most))
    return Stack(*[random_library(name, seed * 10 + k) for k, name in enumerate(names)])


def random_client(stack, seed):
    """A client with some rows, which uses names that the stack sees or that it declares."""
    source = random.Random(seed)
    seen = {name: many for name, (_, _, many) in stack.seen().items()}
    lines = []
    own = {}
    for name in source.sample(LETTERS, source.randint(0, 3)):
        own[name] = -1
        lines.append(f"let {name} = {source.randint(0, 3)}")
    known = {**seen, **own}
    depth = 0
    for _ in range(source.randint(0, 6)):
        word = source.choice(["out", "out", "do", "do", "block", "set"])
        variables = [name for name, many in known.items() if many < 0]
        procedures = [name for name, many in known.items() if many >= 0]
        if word == "block":
            lines.append("block {")
            depth += 1
        elif word == "do" and procedures:
            name = source.choice(procedures)
            arguments = [source.choice([*variables, "4"]) for _ in range(known[name])]
            lines.append(f"do {name}({','.join(arguments)})")
        elif variables:
            name = source.choice(variables)
            lines.append(f"out {name} + 1" if word == "out" else f"  set {name}={source.choice(variables)} ")
    lines += ["}"] * depth
    text = "\n".join(lines)
    return text + source.choice(["", "\n", "\n  ", "\n\n"])


def stacked_by_hand(stack, client):
    """The program of the stacked text, made as it says: by reading what is written here."""
    text = client
    for library in stack.libraries()[::-1]:
        text = program_text(library.program) + "block {\n" + text + "\n}\n"
    return read_text(text)
