"""Steps: edits that never change what a program does."""

from piercednames.copying import Copying
from piercednames.errors import NotAbove, NotFit
from piercednames.patches import Patch, check_room, position_at, require, rows_from
from piercednames.positions import position_behind


def first_number(program, person):
    """The number of the first new id of a person on this base."""
    return max([number for owner, number in program.things() if owner == person], default=0) + 1


def lift(program, row, many, name, *, person, start):
    """The program in which some rows are the body of a new procedure, and are called."""
    require(program, row, "row")
    lifted = rows_from(program, row, many)
    definition, procedure, body, call, use = [(person, start + at) for at in range(5)]
    block = program.block_of(row)
    front = position_at(program, block, None, None)
    patch = Patch(program)
    patch.fill(body, lifted)
    patch.add_row(definition, block, front, ("def", procedure, (), body))
    patch.named[procedure] = name
    patch.add_row(call, block, program.position(row), ("do", use, ()))
    patch.meant[use] = procedure
    patch.check_old_reach()
    check_room(program, row, lifted)
    return patch.changed()


def inline(program, row, *, person, start):
    """The program in which a call is replaced by a copy of the procedure."""
    check_word(program, row, "do")
    check_room(program, row, [row])
    _, use, arguments = program.content(row)
    procedure = program.meaning(use)
    patch = Patch(program)
    patch.take_out([row])
    copying = Copying(program, patch, person, start)
    host, block = copying.fresh(), copying.fresh()
    patch.add_row(host, program.block_of(row), program.position(row), ("block", block))
    for parameter, argument in zip(program.parameters(procedure), arguments):
        copying.add_let(parameter, argument, block)
    copying.add_rows(program.body(procedure), block)
    return patch.changed()


def hoist(program, row, block):
    """The program in which a procedure is defined at the front of a block above its own one."""
    require(program, row, "row")
    require(program, block, "block")
    check_word(program, row, "def")
    home = program.block_of(row)
    if block == home or block not in program.path(home):
        raise NotAbove(block)
    patch = Patch(program)
    patch.set_place(row, block, position_at(program, block, None, None))
    patch.check_old_reach()
    return patch.changed()


def wrap(program, row, many, *, person, start):
    """The program in which some rows stand in a new block row."""
    require(program, row, "row")
    wrapped = rows_from(program, row, many)
    host, block = (person, start), (person, start + 1)
    patch = Patch(program)
    patch.fill(block, wrapped)
    patch.add_row(host, program.block_of(row), program.position(row), ("block", block))
    patch.check_old_reach()
    check_room(program, row, wrapped)
    return patch.changed()


def unwrap(program, row):
    """The program in which the rows of a block row stand in its place."""
    check_word(program, row, "block")
    _, block = program.content(row)
    rows = program.rows_of(block)
    patch = Patch(program)
    patch.take_out([row])
    if rows:
        check_room(program, row, [row])
        place_between(program, patch, rows, row)
    return patch.changed()


def place_between(program, patch, rows, row):
    """Places some rows between a row that goes, whose position the first one takes, and what follows it."""
    home = program.block_of(row)
    following = program.rows_of(home)
    behind = following[following.index(row) + 1:]
    limit = program.position(behind[0]) if behind else None
    position = program.position(row)
    for moved in rows:
        patch.set_place(moved, home, position)
        position = position_behind(position, limit)


def check_word(program, row, word):
    """Raises UnknownId for any value that is no row, NotFit unless its content begins with a word."""
    if program.content(row)[0] != word:
        raise NotFit(row)
