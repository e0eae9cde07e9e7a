"""Programs that are being changed, and where their rows stand meanwhile."""

from piercednames.contents import blocks_of
from piercednames.errors import InvalidNumber, Misused, NoRoom, OutOfReach, UnknownId
from piercednames.layout import Layout
from piercednames.positions import position_behind
from piercednames.programs import Program


class Patch:
    """The dicts of a program, which may be changed until they are those of a new program.

    placed: the dict from the rows to (block, position, content). named, meant and told: the dicts
    from the declarations, uses and numerals to names, meanings and values; they may have more than
    the rows need.
    """

    def __init__(self, program):
        self._root, self.placed, self.named, self.meant, self.told = program.state()
        self._uses = program.uses()

    def add_row(self, row, block, position, content):
        """Adds a new row; its names, meanings and values are added besides."""
        self.placed[row] = (block, position, content)

    def add_worths(self, names, meanings, values):
        """Adds the names, meanings and values of new things."""
        for thing in names:
            self.named[thing] = names[thing]
        for thing in meanings:
            self.meant[thing] = meanings[thing]
        for thing in values:
            self.told[thing] = values[thing]

    def set_place(self, row, block, position):
        """Gives a row a place."""
        _, _, content = self.placed[row]
        self.placed[row] = (block, position, content)

    def fill(self, block, rows):
        """Places some rows, in their order, in a new block."""
        for index, row in enumerate(rows):
            self.set_place(row, block, (index + 1, 1))

    def take_out(self, rows):
        """Takes some rows out."""
        for row in rows:
            del self.placed[row]

    def check_fit(self, uses):
        """Raises Misused for the first of some uses whose meaning does not fit."""
        layout = Layout(self._root, self.placed)
        for use in uses:
            if layout.many[use] != layout.many[self.meant[use]]:
                raise Misused(use)

    def check_reach(self, uses):
        """Raises OutOfReach for the first of some uses whose meaning is not in reach."""
        layout = Layout(self._root, self.placed)
        for use in uses:
            if not layout.reaches(layout.homes[use], self.meant[use]):
                raise OutOfReach(use)

    def check_old_reach(self):
        """Raises OutOfReach for the first use, in the order of the program as it was."""
        self.check_reach(self._uses)

    def changed(self):
        """The new program."""
        return Program(self._root, self.placed, self.named, self.meant, self.told)


def require(program, thing, kind):
    """Raises UnknownId for any value that is nothing of a kind in a program."""
    if program.kind_of(thing) != kind:
        raise UnknownId(thing)


def rows_from(program, row, many):
    """The list of a row and the rows that follow it in its block, so many in all."""
    rows = program.rows_of(program.block_of(row))
    at = rows.index(row)
    if many > len(rows) - at:
        raise InvalidNumber(many)
    return rows[at:at + many]


def position_at(program, block, after, moved):
    """The position behind a row of a block, or at its front for None; None if there is no room.

    moved is a row that is not counted among the rows of the block, or None.
    """
    rows = [row for row in program.rows_of(block) if row != moved]
    at = 0 if after is None else rows.index(after) + 1
    ahead = None if at == 0 else program.position(rows[at - 1])
    following = None if at == len(rows) else program.position(rows[at])
    return position_behind(ahead, following)


def check_room(program, row, leaving):
    """Raises NoRoom for a row if one that stays in its block has its position; leaving is a list."""
    for other in program.rows_of(program.block_of(row)):
        if other not in leaving and program.position(other) == program.position(row):
            raise NoRoom(row)


def rows_below(program, block):
    """The dict of True for the rows of a block, and of all blocks below it, in reading order."""
    below = {}
    for row in program.rows():
        home = program.block_of(row)
        if home == block or program.row_of(home) in below:
            below[row] = True
    return below


def rows_within(program, row):
    """The list of a row and of all rows within it."""
    rows = [row]
    for block in blocks_of(program.content(row)):
        rows.extend(list(rows_below(program, block)))
    return rows
