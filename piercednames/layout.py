"""Where the things of a tree of blocks stand."""

from piercednames.contents import blocks_of, things_of
from piercednames.positions import ordered


class Layout:
    """The reading order of a tree, and what stands where.

    order: all things. kinds: the kind of each one. homes: the block of each one, for a block its
    parent. hosts: the row of each one, None for the root and for rows. depths: how many blocks
    are above each block. inner: the rows of each block, in their order. many: how many parameters
    a declaration has and how many arguments a use gives, -1 for what is about a variable; so a
    declaration fits a use exactly if these numbers are equal.
    """

    def __init__(self, root, rows):
        self.order = []
        self.kinds = {}
        self.homes = {}
        self.hosts = {}
        self.depths = {}
        self.many = {}
        self.inner = rows_by_block(root, rows)
        self._walk(root, rows)

    def of_kind(self, kind):
        """The list of the things of a kind, in reading order."""
        return [thing for thing in self.order if self.kinds[thing] == kind]

    def path(self, block):
        """The list of a block and those above it, upward."""
        path = [block]
        while self.homes[path[-1]] is not None:
            path.append(self.homes[path[-1]])
        return path

    def reaches(self, block, declaration):
        """Whether a declaration is in reach of a block."""
        return self.homes[declaration] in self.path(block)

    def _walk(self, root, rows):
        # A stack in place of recursion, for a text may nest more blocks than calls can be nested.
        steps = [("rows", root, None, None), ("block", root, None, None)]
        while steps:
            kind, thing, home, host = steps.pop()
            if kind == "rows":
                steps.extend([("row", row, thing, None) for row in reversed(self.inner[thing])])
                continue
            self._place(kind, thing, home, host)
            if kind == "row":
                content = rows[thing][2]
                steps.extend(steps_of_row(thing, home, content)[::-1])
            if kind in ("declaration", "use"):
                self.many[thing] = many_of(thing, rows[host][2])

    def _place(self, kind, thing, home, host):
        self.order.append(thing)
        self.kinds[thing] = kind
        self.homes[thing] = home
        self.hosts[thing] = host
        if kind == "block":
            self.depths[thing] = 0 if home is None else self.depths[home] + 1


def rows_by_block(root, rows):
    """The dict from all blocks of a tree to the lists of their rows, in order."""
    pairs = {root: []}
    for row in rows:
        for block in blocks_of(rows[row][2]):
            pairs[block] = []
    for row in rows:
        block, position, _ = rows[row]
        pairs[block].append((position, row))
    return {block: ordered(pairs[block]) for block in pairs}


def steps_of_row(row, block, content):
    """What follows a row: its things as (kind, thing, block, row), and where the rows of a block go."""
    if content[0] == "def":
        return steps_of_definition(row, block, content)
    steps = []
    for kind, thing in things_of(content):
        steps.append((kind, thing, block, row))
        if kind == "block":
            steps.append(("rows", thing, None, None))
    return steps


def steps_of_definition(row, block, content):
    # The block of a parameter is the body, and the parameters stand ahead of the rows of the body.
    _, declaration, parameters, body = content
    steps = [("declaration", declaration, block, row), ("block", body, block, row)]
    steps.extend([("declaration", parameter, body, row) for parameter in parameters])
    steps.append(("rows", body, None, None))
    return steps


def many_of(thing, content):
    """How many parameters or arguments a declaration or use of a content has, -1 for a variable."""
    if content[0] in ("def", "do") and content[1] == thing:
        return len(content[2])
    return -1
