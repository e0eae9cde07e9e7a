"""Runs, said a second time in another way: by generators within generators.

The frames are chained, and cells are no store of their own: what a cell holds is what the newest
frame has whose block has a declaration with that cell.
"""

from tests import reference
from tests.reference_names import Facts

LIMIT = 1000000


class Clash(Exception):
    pass


class Frame:
    def __init__(self, block, link, own):
        self.block, self.link, self.many = block, link, 0
        self.own = own


class ReferenceRun:
    def __init__(self, program, by, inputs=(), choices=None, cells=None):
        self.state = program.state()
        self.facts = Facts(program)
        self.values = self.state[4]
        self.by = by
        self.inputs = list(inputs)
        self.choices = None if choices is None else list(choices)
        self.cell_of = cells
        if by == "cells" and cells is None:
            order = sorted(set(self.facts.names.values()))
            self.cell_of = {d: order.index(name) for d, name in self.facts.names.items()}
        self.rows = {block: reference.rows_in(self.state, block) for block in self.facts.blocks}
        self.in_block = {block: [] for block in self.facts.blocks}
        for d in self.facts.declarations:
            self.in_block[self.facts.homes[d]].append(d)
        self.procedures = {content[1]: content for _, _, content in self.state[1].values() if content[0] == "def"}
        self.stack, self.outputs, self.notes = [], [], []
        self.ended, self.steps = "", 0
        self.walk = self.block(self.push(self.facts.root, None), 1)

    def step(self):
        self.steps += 1
        try:
            next(self.walk)
        except Clash:
            self.ended = "clash"
        if not self.stack:
            self.ended = "done"

    def push(self, block, link):
        self.stack.append(Frame(block, link, {d: None if d in self.procedures else 0 for d in self.in_block[block]}))
        return self.stack[-1]

    def block(self, frame, rounds):
        while rounds > 0:
            for row in self.rows[frame.block]:
                frame.many += 1
                inner = self.row(frame, self.state[1][row][2])
                yield
                if inner is not None:
                    yield from self.block(*inner)
            self.stack.pop()
            rounds -= 1
            if rounds > 0:
                frame = self.push(frame.block, frame.link)
            yield

    # What a use meets: a frame and a declaration.

    def meet(self, use):
        own = self.facts.meanings[use]
        if self.by == "callers" or self.by == "cells":
            for frame in reversed(self.stack):
                for d in self.in_block[frame.block]:
                    if self.label(d) == self.label(own):
                        return frame, d
        frame = self.stack[-1]
        while True:
            for d in self.in_block[frame.block]:
                if d == own or (self.by == "text" and self.facts.names[d] == self.facts.names[own]):
                    return frame, d
            frame = frame.link

    def label(self, d):
        return self.facts.names[d] if self.by == "callers" else self.cell_of[d]

    def uses(self, content):
        found = [content[1]] if content[0] in ("set", "read", "do") else []
        if content[0] in ("let", "set"):
            expressions = [content[2]]
        elif content[0] == "do":
            expressions = content[2]
        else:
            expressions = [content[1]] if content[0] in ("out", "if", "repeat") else []
        for expression in expressions:
            listed = []
            reference.leaves(expression, None, None, listed)
            found += [thing for kind, thing, _, _ in listed if kind == "use"]
        return found

    def many(self, d):
        return len(self.procedures[d][2]) if d in self.procedures else -1

    def row(self, frame, content):
        """Does a row; returns the frame that it enters, and its rounds, or None."""
        word = content[0]
        met = {}
        for use in self.uses(content):
            met[use] = self.meet(use)
            self.notes.append((use, met[use][1]))
        for use, (_, d) in met.items():
            wanted = len(content[2]) if word == "do" and use == content[1] else -1
            if self.many(d) != wanted:
                raise Clash
        if word in ("let", "set"):
            value = self.value(content[2], met)
            target, d = (frame, content[1]) if word == "let" else met[content[1]]
            target.own[d] = value
        elif word == "read":
            target, d = met[content[1]]
            target.own[d] = self.inputs.pop(0) if self.inputs else 0
        elif word == "out":
            self.outputs.append(self.value(content[1], met))
        elif word == "block":
            return self.push(content[1], frame), 1
        elif word in ("if", "repeat", "do"):
            return self.branch(frame, content, met)
        return None

    def branch(self, frame, content, met):
        choice = None
        if self.choices is not None:
            choice = self.choices.pop(0) if self.choices else 0
        if content[0] == "do":
            values = [self.value(argument, met) for argument in content[2]]
            link, procedure = met[content[1]]
            if choice == 0:
                return None
            _, _, parameters, body = self.procedures[procedure]
            entered = self.push(body, link)
            entered.own.update(zip(parameters, values))
            return entered, 1
        value = self.value(content[1], met)
        if content[0] == "if":
            first = choice == 0 if choice is not None else value != 0
            return self.push(content[2] if first else content[3], frame), 1
        rounds = value if choice is None else choice
        return (self.push(content[2], frame), rounds) if rounds else None

    def value(self, expression, met):
        if expression[0] == "number":
            return self.values[expression[1]]
        if expression[0] == "use":
            frame, d = met[expression[1]]
            return frame.own[d]
        left, right = self.value(expression[1], met), self.value(expression[2], met)
        if expression[0] == "<":
            return int(left < right)
        return {"+": left + right, "-": left - right, "*": left * right}[expression[0]] % LIMIT

    # What is told of a run.

    def frames(self):
        told = []
        for index, frame in enumerate(self.stack):
            if self.by == "cells":
                kept = [(self.cell_of[d], *self.held(self.stack[:index], self.cell_of[d])) for d in frame.own]
            else:
                kept = [(d, value) for d, value in frame.own.items() if d not in self.procedures]
            told.append((frame.block, frame.many, tuple(kept)))
        return told

    def held(self, stack, cell):
        for frame in reversed(stack):
            for d in frame.own:
                if self.cell_of[d] == cell:
                    return d, frame.own[d]
        return None, None

    def cells(self):
        if self.by != "cells":
            return {}
        held = {cell: self.held(self.stack, cell) for cell in sorted(set(self.cell_of.values()))}
        return {cell: pair for cell, pair in held.items() if pair != (None, None)}

    def told(self):
        untrue = [at for at, (use, d) in enumerate(self.notes) if self.facts.meanings[use] != d]
        return {
            "outputs": self.outputs, "notes": self.notes, "untrue": untrue[0] if untrue else None,
            "left": len(self.inputs), "frames": self.frames(), "cells": self.cells(), "ended": self.ended,
            "step_count": self.steps,
        }


def told(run):
    """What a Run tells of itself, in the same form."""
    return {
        "outputs": run.outputs(), "notes": run.notes(), "untrue": run.untrue(), "left": run.left(),
        "frames": run.frames(), "cells": run.cells(), "ended": run.ended, "step_count": run.step_count,
    }
