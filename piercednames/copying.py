"""Copies of the rows of a procedure, under new ids."""

from piercednames.contents import copied, things_of
from piercednames.patches import rows_below


class Copying:
    """Copies rows of a program into a patch; the copies get the ids (person, start) and so on.

    In the copies of the rows of a body, what is copied means its copies, and so do the parameters
    for which a let was added ahead.
    """

    def __init__(self, program, patch, person, start):
        self._program = program
        self._patch = patch
        self._person = person
        self._number = start
        self._copies = {}
        self._lets = 0

    def fresh(self):
        """The next new id."""
        thing = (self._person, self._number)
        self._number += 1
        return thing

    def add_let(self, parameter, argument, block):
        """Adds a let for a parameter, with a copy of its argument, behind the lets of a new block."""
        row, declaration = self.fresh(), self.fresh()
        # The argument stands outside of the procedure: what it uses is not what is copied here.
        ids = {thing: self.fresh() for _, thing in things_of(("out", argument))}
        _, expression = copied(("out", argument), ids)
        self._lets += 1
        self._patch.add_row(row, block, (self._lets, 1), ("let", declaration, expression))
        self._patch.named[declaration] = self._program.name_of(parameter)
        for thing in ids:
            self._copy_worth(thing, ids[thing], {})
        self._copies[parameter] = declaration

    def add_rows(self, body, block):
        """Adds copies of the rows of a body behind the lets of a new block."""
        below = rows_below(self._program, body)
        things = [thing for thing in self._program.things() if self._host(thing) in below]
        self._copies[body] = block
        for thing in things:
            self._copies[thing] = self.fresh()
        for thing in things:
            if thing in below:
                self._copy_row(thing, body)
            else:
                self._copy_worth(thing, self._copies[thing], self._copies)

    def _host(self, thing):
        """The row of a thing; a row is its own one."""
        return thing if self._program.kind_of(thing) == "row" else self._program.row_of(thing)

    def _copy_row(self, row, body):
        home = self._program.block_of(row)
        index = self._program.rows_of(home).index(row) + 1
        if home == body:
            index += self._lets
        content = copied(self._program.content(row), self._copies)
        self._patch.add_row(self._copies[row], self._copies[home], (index, 1), content)

    def _copy_worth(self, thing, copy, copies):
        """Gives the copy of a thing its name, meaning or value."""
        kind = self._program.kind_of(thing)
        if kind == "declaration":
            self._patch.named[copy] = self._program.name_of(thing)
        elif kind == "use":
            meaning = self._program.meaning(thing)
            self._patch.meant[copy] = copies.get(meaning, meaning)
        elif kind == "number":
            self._patch.told[copy] = self._program.value_of(thing)
