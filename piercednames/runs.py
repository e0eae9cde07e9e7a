"""Runs of programs by one of four ways."""

from piercednames.contents import folded, things_of
from piercednames.errors import Ended, InvalidCells, InvalidItem, InvalidNumber, InvalidWay, SharedCell
from piercednames.meaning import check_single
from piercednames.memory import CellMemory, FrameMemory, dealing_by_names, plain_dealing
from piercednames.words import LIMIT, is_number

MOST_STEPS = 5000
MOST_CELL = 999
MOST_CHOICE = 2


class Run:
    """A run of a program, which does one row at each step."""

    WAYS = ("meaning", "text", "callers", "cells")

    def __init__(self, program, *, by="text", inputs=(), choices=None, cells=None):
        if by not in self.WAYS:
            raise InvalidWay(by)
        check_items(inputs, LIMIT - 1)
        check_items([] if choices is None else choices, MOST_CHOICE)
        self._program = program
        self._by = by
        self._inputs = list(inputs)
        self._choices = None if choices is None else list(choices)
        self._cells = None if by != "cells" or cells is None else plain_dealing(cells)
        self._memory = memory_for(program, by, self._cells)
        self._inputs_taken = 0
        self._choices_taken = 0
        self._outputs = []
        self._notes = []
        self._untrue = None
        self._step_count = 0
        self._ended = ""
        self._memory.enter(program.root, None, 0)

    @property
    def ended(self):
        """done, clash, or the empty string until then."""
        return self._ended

    @property
    def step_count(self):
        """The number of steps that were done."""
        return self._step_count

    def outputs(self):
        """The list of the outputs."""
        return list(self._outputs)

    def notes(self):
        """The list of the pairs of a use and the declaration that it met."""
        return list(self._notes)

    def untrue(self):
        """The index of the first untrue note, None without one."""
        return self._untrue

    def left(self):
        """The number of inputs that were not taken."""
        return len(self._inputs) - self._inputs_taken

    def choices_taken(self):
        """The number of choices that were taken out of the list."""
        return self._choices_taken

    def frames(self):
        """The list of the frames, the oldest first, as tuples (block, many, kept)."""
        memory = self._memory
        return [(frame.block, frame.many, memory.kept_in(frame)) for frame in memory.stack]

    def cells(self):
        """By cells the dict from the cells that are not empty to the pairs (owner, value)."""
        return self._memory.cells()

    def run(self, most=300):
        """Does steps until the run has ended or so many are done; returns how many it did."""
        if not is_number(most, 0, MOST_STEPS):
            raise InvalidNumber(most)
        before = self._step_count
        while self._ended == "" and self._step_count - before < most:
            self.step()
        return self._step_count - before

    def step(self):
        """Does a step."""
        if self._ended != "":
            raise Ended()
        self._step_count += 1
        frame = self._memory.stack[-1]
        rows = self._program.rows_of(frame.block)
        if frame.many == len(rows):
            self._leave()
            return
        frame.many += 1
        content = self._program.content(rows[frame.many - 1])
        met = self._met(content)
        if self._fit(met):
            self._do_row(content, met)
        else:
            self._ended = "clash"

    def _leave(self):
        frame = self._memory.leave()
        if frame.rounds > 0:
            self._memory.enter(frame.block, frame.upward, frame.rounds - 1)
        elif not self._memory.stack:
            self._ended = "done"

    def _met(self, content):
        """Notes what the uses of a row meet; returns the dict from the uses to what is met."""
        met = {}
        for word, use in things_of(content):
            if word == "use":
                met[use] = self._memory.meet(use)
                declaration, _ = met[use]
                if self._untrue is None and declaration != self._program.meaning(use):
                    self._untrue = len(self._notes)
                self._notes.append((use, declaration))
        return met

    def _fit(self, met):
        """Whether all declarations that uses met fit them."""
        return all([self._program.fits(use, declaration) for use, (declaration, _) in met.items()])

    def _do_row(self, content, met):
        word = content[0]
        if word == "let":
            self._memory.give_own(content[1], self._value(content[2], met))
        elif word == "set":
            self._memory.give(met[content[1]], self._value(content[2], met))
        elif word == "read":
            self._memory.give(met[content[1]], self._next_input())
        elif word == "out":
            self._outputs.append(self._value(content[1], met))
        elif word == "do":
            self._do_call(content, met)
        elif word == "if":
            # As a choice 0 stands for the first half, as a value for the second one.
            is_first = self._value(content[1], met) != 0
            if self._choices is not None:
                is_first = self._next_choice() == 0
            self._enter(content[2] if is_first else content[3], 0)
        elif word == "repeat":
            rounds = self._value(content[1], met)
            if self._choices is not None:
                rounds = self._next_choice()
            if rounds > 0:
                self._enter(content[2], rounds - 1)
        elif word == "block":
            self._enter(content[1], 0)

    def _do_call(self, content, met):
        _, use, arguments = content
        values = [self._value(argument, met) for argument in arguments]
        if self._choices is not None and self._next_choice() == 0:
            return
        procedure, upward = met[use]
        self._memory.enter(self._program.body(procedure), upward, 0)
        for parameter, value in zip(self._program.parameters(procedure), values):
            self._memory.give_own(parameter, value)

    def _enter(self, block, rounds):
        """Enters a block of a row of the newest frame."""
        self._memory.enter(block, len(self._memory.stack) - 1, rounds)

    def _value(self, expression, met):
        """The value of an expression, with what its uses met."""
        return folded(expression, lambda leaf: self._leaf_value(leaf, met), computed)

    def _leaf_value(self, leaf, met):
        word, thing = leaf
        if word == "use":
            return self._memory.value_of(met[thing])
        return self._program.value_of(thing)

    def _next_input(self):
        if self.left() == 0:
            return 0
        self._inputs_taken += 1
        return self._inputs[self._inputs_taken - 1]

    def _next_choice(self):
        if self._choices_taken == len(self._choices):
            return 0
        self._choices_taken += 1
        return self._choices[self._choices_taken - 1]

    def twin(self):
        """An independent run in the same state."""
        other = Run(
            self._program, by=self._by, inputs=self._inputs, choices=self._choices, cells=self._cells
        )
        other._memory = self._memory.twin()
        other._inputs_taken = self._inputs_taken
        other._choices_taken = self._choices_taken
        other._outputs = self.outputs()
        other._notes = self.notes()
        other._untrue = self._untrue
        other._step_count = self._step_count
        other._ended = self._ended
        return other

    def __repr__(self):
        return f"Run({self._ended or 'running'})"


def computed(sign, left, right):
    """The value of an operation."""
    if sign == "+":
        return (left + right) % LIMIT
    if sign == "-":
        return (left - right) % LIMIT
    if sign == "*":
        return (left * right) % LIMIT
    return 1 if left < right else 0


def check_items(items, most):
    """Raises InvalidItem with the index of the first item that is no number from 0 to most."""
    for at, item in enumerate(items):
        if not is_number(item, 0, most):
            raise InvalidItem(at)


def memory_for(program, by, cells):
    """The memory of a run by a way; cells is a dealing or None."""
    if by == "cells" and cells is not None:
        check_dealing(program, cells)
        return CellMemory(program, cells)
    if by != "meaning":
        check_single(program)
    if by == "cells":
        return CellMemory(program, dealing_by_names(program))
    return FrameMemory(program, by)


def check_dealing(program, cells):
    """Raises InvalidCells or SharedCell for the first declaration with a wrong cell."""
    for declaration in program.declarations():
        if not is_number(cells.get(declaration), 0, MOST_CELL):
            raise InvalidCells(declaration)
    owners = {}
    for second in program.declarations():
        key = (program.block_of(second), cells[second])
        if key in owners:
            raise SharedCell(owners[key], second)
        owners[key] = second
