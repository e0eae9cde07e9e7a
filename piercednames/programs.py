"""Programs of the block language."""

from piercednames.contents import copied, flat_content
from piercednames.errors import InvalidName, Lost, Misused, OutOfReach, UnknownId
from piercednames.layout import Layout
from piercednames.words import is_id, is_name


class Program:
    """A program: a tree of blocks, with names, meanings and values. It never changes."""

    def __init__(self, root, rows, names, meanings, values):
        layout = Layout(root, rows)
        self.root = root
        self._layout = layout
        self._rows = in_order(layout.of_kind("row"), rows)
        self._names = in_order(layout.of_kind("declaration"), names)
        self._meanings = in_order(layout.of_kind("use"), meanings)
        self._values = in_order(layout.of_kind("number"), values)
        self._users = {declaration: [] for declaration in self._names}
        self._flat_rows = flat_rows(self._rows)
        self._keep_uses()

    def _keep_uses(self):
        for use in self._meanings:
            meaning = self._meanings[use]
            if self.kind_of(meaning) != "declaration":
                raise Lost(use)
            if not self.fits(use, meaning):
                raise Misused(use)
            if not self.reaches(self._layout.homes[use], meaning):
                raise OutOfReach(use)
            self._users[meaning].append(use)

    def _require(self, thing, *kinds):
        if self.kind_of(thing) not in kinds:
            raise UnknownId(thing)

    def state(self):
        """The tuple of the arguments of the constructor, with new dicts in reading order."""
        rows = in_order(self._rows, self._rows)
        meanings = in_order(self._meanings, self._meanings)
        values = in_order(self._values, self._values)
        return (self.root, rows, self.names(), meanings, values)

    def things(self):
        """The list of all blocks, rows, declarations, uses and numerals, in reading order."""
        return list(self._layout.order)

    def blocks(self):
        """The list of the blocks, in reading order."""
        return self._layout.of_kind("block")

    def rows(self):
        """The list of the rows, in reading order."""
        return list(self._rows)

    def declarations(self):
        """The list of the declarations, in reading order."""
        return list(self._names)

    def uses(self):
        """The list of the uses, in reading order."""
        return list(self._meanings)

    def numerals(self):
        """The list of the numerals, in reading order."""
        return list(self._values)

    def kind_of(self, thing):
        """block, row, declaration, use or number; None for any other value."""
        # True equals 1 as a key, and a list is no key: only ids are looked up.
        if not is_id(thing):
            return None
        return self._layout.kinds.get(thing)

    def rows_of(self, block):
        """The list of the rows of a block, in order."""
        self._require(block, "block")
        return list(self._layout.inner[block])

    def content(self, row):
        """The content of a row."""
        self._require(row, "row")
        return self._rows[row][2]

    def position(self, row):
        """The position of a row."""
        self._require(row, "row")
        return self._rows[row][1]

    def block_of(self, thing):
        """The block of a row, declaration, use or numeral."""
        self._require(thing, "row", "declaration", "use", "number")
        return self._layout.homes[thing]

    def row_of(self, thing):
        """The row of a declaration, use, numeral or block, None for the root."""
        self._require(thing, "declaration", "use", "number", "block")
        return self._layout.hosts[thing]

    def parent(self, block):
        """The parent of a block, None for the root."""
        self._require(block, "block")
        return self._layout.homes[block]

    def path(self, block):
        """The list of the block and those above it, upward."""
        self._require(block, "block")
        return self._layout.path(block)

    def depth(self, block):
        """The number of blocks above a block."""
        self._require(block, "block")
        return self._layout.depths[block]

    def name_of(self, declaration):
        """The name of a declaration."""
        self._require(declaration, "declaration")
        return self._names[declaration]

    def meaning(self, use):
        """The declaration that a use means."""
        self._require(use, "use")
        return self._meanings[use]

    def value_of(self, numeral):
        """The value of a numeral."""
        self._require(numeral, "number")
        return self._values[numeral]

    def uses_of(self, declaration):
        """The list of the uses that mean a declaration, in reading order."""
        self._require(declaration, "declaration")
        return list(self._users[declaration])

    def parameters(self, declaration):
        """The list of the parameters of a procedure, None for a variable."""
        content = self._definition(declaration)
        return None if content is None else list(content[2])

    def body(self, declaration):
        """The body of a procedure, None for a variable."""
        content = self._definition(declaration)
        return None if content is None else content[3]

    def _definition(self, declaration):
        self._require(declaration, "declaration")
        if self._layout.many[declaration] < 0:
            return None
        return self._rows[self._layout.hosts[declaration]][2]

    def names(self):
        """The dict from the declarations, in reading order, to their names."""
        return in_order(self._names, self._names)

    def renamed(self, names):
        """The program in which the declarations of a dict have other names."""
        declarations = sorted(names)
        for declaration in declarations:
            self._require(declaration, "declaration")
        for declaration in declarations:
            if not is_name(names[declaration]):
                raise InvalidName(names[declaration])
        changed = {key: names.get(key, self._names[key]) for key in self._names}
        return Program(self.root, self._rows, changed, self._meanings, self._values)

    def respaced(self):
        """The program in which the k-th row of each block has the position (k, 1)."""
        rows = {}
        for block in self._layout.inner:
            for index, row in enumerate(self._layout.inner[block]):
                rows[row] = (block, (index + 1, 1), self._rows[row][2])
        return Program(self.root, rows, self._names, self._meanings, self._values)

    def fits(self, use, declaration):
        """Whether a declaration fits a use."""
        self._require(use, "use")
        self._require(declaration, "declaration")
        return self._layout.many[use] == self._layout.many[declaration]

    def reaches(self, block, declaration):
        """Whether a declaration is in reach of a block."""
        self._require(block, "block")
        self._require(declaration, "declaration")
        return self._layout.reaches(block, declaration)

    def __eq__(self, other):
        return (
            isinstance(other, Program)
            and self.root == other.root
            and self._flat_rows == other._flat_rows
            and self._names == other._names
            and self._meanings == other._meanings
            and self._values == other._values
        )

    def __len__(self):
        return len(self._rows)

    def __bool__(self):
        return True

    def __repr__(self):
        return f"Program({len(self._rows)} rows, {len(self._names)} declarations)"


def flat_rows(rows):
    """The rows as they are compared: tuples as deep as a long sum cannot be."""
    flat = {}
    for row in rows:
        block, position, content = rows[row]
        flat[row] = (block, position, flat_content(content))
    return flat


def in_order(keys, table):
    """The new dict with these keys, in this order, and the values that a dict has for them."""
    return {key: table[key] for key in keys}


def alike(one, other):
    """Whether two programs differ in ids and positions alone."""
    return described(one) == described(other)


def described(program):
    """What a program says of each of its things if ids are replaced by indexes, without positions."""
    things = program.things()
    index = {thing: at for at, thing in enumerate(things)}
    return [described_thing(program, index, thing) for thing in things]


def described_thing(program, index, thing):
    kind = program.kind_of(thing)
    if kind == "row":
        content = copied(program.content(thing), index)
        return (kind, index[program.block_of(thing)], flat_content(content))
    if kind == "declaration":
        return (kind, program.name_of(thing))
    if kind == "use":
        return (kind, index[program.meaning(thing)])
    if kind == "number":
        return (kind, program.value_of(thing))
    return (kind,)
