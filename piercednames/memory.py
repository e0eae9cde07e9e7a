"""The frames of a run, and where it keeps the values of variables: in the frames, or in cells."""

from piercednames.meaning import first_named
from piercednames.words import is_id


class Frame:
    """A block that is being done.

    many: how many of its rows were begun. upward: the index of the frame that is next upward.
    rounds: how often the block is entered again when it is left. store: in a memory of frames the
    dict from the variables of the block to their values, in one of cells what was saved.
    """

    def __init__(self, block, upward, rounds, store):
        self.block = block
        self.many = 0
        self.upward = upward
        self.rounds = rounds
        self.store = store


class FrameMemory:
    """Keeps the values of variables in the frames of their blocks.

    stack: the frames, the newest one last. What a use meets is a pair of a declaration and the
    index of its frame.
    """

    def __init__(self, program, by):
        self._program = program
        self._by = by
        self._names = program.names()
        self._named = first_named(program)
        self._declared = declared_by_block(program)
        self.stack = []
        # For each name the frames that show it: by callers the stack may be too long to be searched.
        self._showing = {self._names[thing]: [] for thing in self._names}

    def enter(self, block, upward, rounds):
        """Puts a frame on the stack. upward is the index of the frame that is next upward."""
        store = {}
        for thing in self._declared[block]:
            self._showing[self._names[thing]].append(len(self.stack))
            if is_variable(self._program, thing):
                store[thing] = 0
        self.stack.append(Frame(block, upward, rounds, store))

    def leave(self):
        """Takes the newest frame off the stack; returns it."""
        frame = self.stack.pop()
        for thing in self._declared[frame.block]:
            self._showing[self._names[thing]].pop()
        return frame

    def meet(self, use):
        """What a use meets."""
        own = self._program.meaning(use)
        name = self._names[own]
        if self._by == "meaning":
            home = self._program.block_of(own)
            return (own, self._nearest_upward([home]))
        if self._by == "text":
            at = self._nearest_upward([block for block, word in self._named if word == name])
        else:
            at = self._showing[name][-1]
        return (self._named[self.stack[at].block, name], at)

    def _nearest_upward(self, blocks):
        """The index of the nearest frame upward that is one of some blocks."""
        at = len(self.stack) - 1
        while self.stack[at].block not in blocks:
            at = self.stack[at].upward
        return at

    def value_of(self, met):
        """The value of a variable that was met."""
        declaration, at = met
        return self.stack[at].store[declaration]

    def give(self, met, value):
        """Gives a value to a variable that was met."""
        declaration, at = met
        self.stack[at].store[declaration] = value

    def give_own(self, declaration, value):
        """Gives a value to a variable of the block of the newest frame."""
        self.stack[-1].store[declaration] = value

    def kept_in(self, frame):
        """The tuple of the pairs (declaration, value) of a frame."""
        return tuple([(thing, frame.store[thing]) for thing in frame.store])

    def cells(self):
        """The dict of the cells: there are none."""
        return {}

    def twin(self):
        """An independent memory in the same state."""
        other = FrameMemory(self._program, self._by)
        other.stack = [frame_like(frame, copied_store(frame.store)) for frame in self.stack]
        other._showing = {name: list(self._showing[name]) for name in self._showing}
        return other


class CellMemory:
    """Keeps the values of variables in cells, which it saves in the frames.

    stack: the frames, the newest one last; none is looked for upward. What a use meets is a pair
    of a declaration and its cell.
    """

    def __init__(self, program, dealing):
        """dealing is a dict from all declarations of the program to their cells."""
        self._program = program
        self._dealing = dealing
        self._declared = declared_by_block(program)
        self._cells = {}
        self.stack = []

    def enter(self, block, upward, rounds):
        """Puts a frame on the stack, and saves the cells of the block in it."""
        saved = []
        for thing in self._declared[block]:
            cell = self._dealing[thing]
            owner, value = self._cells.get(cell, (None, None))
            saved.append((cell, owner, value))
            self._cells[cell] = (thing, 0 if is_variable(self._program, thing) else None)
        self.stack.append(Frame(block, upward, rounds, saved))

    def leave(self):
        """Takes the newest frame off the stack, and puts the saved cells back; returns the frame."""
        frame = self.stack.pop()
        for cell, owner, value in frame.store:
            if owner is None:
                del self._cells[cell]
            else:
                self._cells[cell] = (owner, value)
        return frame

    def meet(self, use):
        """What a use meets."""
        cell = self._dealing[self._program.meaning(use)]
        owner, _ = self._cells[cell]
        return (owner, cell)

    def value_of(self, met):
        """The value of a variable that was met."""
        _, cell = met
        _, value = self._cells[cell]
        return value

    def give(self, met, value):
        """Gives a value to a variable that was met."""
        owner, cell = met
        self._cells[cell] = (owner, value)

    def give_own(self, declaration, value):
        """Gives a value to a variable of the block of the newest frame."""
        self._cells[self._dealing[declaration]] = (declaration, value)

    def kept_in(self, frame):
        """The tuple of the saved (cell, owner, value) of a frame."""
        return tuple(frame.store)

    def cells(self):
        """The dict from the cells that are not empty, ascending, to the pairs (owner, value)."""
        return {cell: self._cells[cell] for cell in sorted(self._cells)}

    def twin(self):
        """An independent memory in the same state."""
        other = CellMemory(self._program, self._dealing)
        other.stack = [frame_like(frame, list(frame.store)) for frame in self.stack]
        other._cells = self.cells()
        return other


def copied_store(store):
    return {thing: store[thing] for thing in store}


def frame_like(frame, store):
    """A frame in the state of another one, with a store of its own."""
    other = Frame(frame.block, frame.upward, frame.rounds, store)
    other.many = frame.many
    return other


def declared_by_block(program):
    """The dict from the blocks to the lists of their declarations, in reading order."""
    declared = {block: [] for block in program.blocks()}
    for thing in program.declarations():
        declared[program.block_of(thing)].append(thing)
    return declared


def is_variable(program, declaration):
    return program.body(declaration) is None


def dealing_by_names(program):
    """The dict from the declarations to the indexes of their names in the list of all names."""
    names = program.names()
    order = sorted(set(list(names.values())))
    return {thing: order.index(names[thing]) for thing in names}


def plain_dealing(cells):
    """The entries of a dealing about ids."""
    # An id with True in the place of 1 equals the id as a key, but is none.
    return {key: cells[key] for key in cells if is_id(key)}
