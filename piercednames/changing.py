"""The edits that are no steps: each function gives the program after one of them."""

from piercednames.edits import sketched
from piercednames.errors import NoRoom, Ring, UnknownId
from piercednames.patches import Patch, position_at, require, rows_within

# Stands in while it is not known yet whether there is room: names and meanings do not depend on it.
ANYWHERE = (1, 1)


def put(program, block, after, sketch, person, start):
    """The program with a new row."""
    require(program, block, "block")
    require_after(program, block, after, None)
    row = (person, start)
    content, names, meanings, values, _ = sketched(sketch, person=person, start=start)
    for use in meanings:
        if meanings[use] not in names:
            require(program, meanings[use], "declaration")
    patch = Patch(program)
    patch.add_row(row, block, ANYWHERE, content)
    patch.add_worths(names, meanings, values)
    patch.check_fit(list(meanings))
    patch.check_reach(list(meanings))
    patch.set_place(row, block, room_at(program, block, after, None))
    return patch.changed()


def drop(program, row):
    """The program without a row."""
    require(program, row, "row")
    patch = Patch(program)
    patch.take_out(rows_within(program, row))
    # The first use whose meaning has gone raises Lost here.
    return patch.changed()


def move(program, row, block, after):
    """The program in which a row stands elsewhere."""
    require(program, row, "row")
    require(program, block, "block")
    require_after(program, block, after, row)
    if program.row_of(block) in rows_within(program, row):
        raise Ring(row)
    patch = Patch(program)
    patch.set_place(row, block, ANYWHERE)
    patch.check_old_reach()
    patch.set_place(row, block, room_at(program, block, after, row))
    return patch.changed()


def turn(program, use, declaration):
    """The program in which a use means another declaration."""
    require(program, use, "use")
    require(program, declaration, "declaration")
    patch = Patch(program)
    patch.meant[use] = declaration
    # Misused and OutOfReach are raised here: no other use can be wrong.
    return patch.changed()


def revalue(program, numeral, value):
    """The program in which a numeral has another value."""
    require(program, numeral, "number")
    patch = Patch(program)
    patch.told[numeral] = value
    return patch.changed()


def require_after(program, block, after, moved):
    """Raises UnknownId unless after is None, or a row of a block that is not moved."""
    if after is not None and (after == moved or after not in program.rows_of(block)):
        raise UnknownId(after)


def room_at(program, block, after, moved):
    """The position behind a row of a block, or at its front; raises NoRoom."""
    position = position_at(program, block, after, moved)
    if position is None:
        raise NoRoom(after)
    return position
