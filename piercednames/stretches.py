"""Stretches of declarations, and the table of all of them."""

from piercednames.errors import UnknownId
from piercednames.words import is_id


class Stretch:
    """The blocks from the uses of a declaration up to its own block. It never changes."""

    def __init__(self, declaration, top, blocks):
        self.declaration = declaration
        self.top = top
        self._blocks = list(blocks)
        self._inside = {block: True for block in self._blocks}

    def blocks(self):
        """The list of the blocks."""
        return list(self._blocks)

    def meets(self, other):
        """Whether two stretches have a block in common."""
        return len(self & other) > 0

    def __contains__(self, block):
        # True equals 1 as a key, and a list is no key: only ids are looked up.
        return is_id(block) and block in self._inside

    def __and__(self, other):
        return [block for block in self._blocks if block in other]

    def __eq__(self, other):
        return (
            isinstance(other, Stretch)
            and self.declaration == other.declaration
            and self._inside == other._inside
        )

    def __len__(self):
        return len(self._blocks)

    def __bool__(self):
        return True

    def __repr__(self):
        return f"Stretch({len(self._blocks)} blocks)"


class Table:
    """The stretches of all declarations of a program. It never changes."""

    def __init__(self, program):
        ends = {}
        for declaration in program.declarations():
            ends[declaration] = [program.block_of(use) for use in program.uses_of(declaration)]
        self._keep(program, ends)

    def _keep(self, program, ends):
        """Keeps the stretches of the declarations of a dict, from the blocks that it has upward."""
        self.program = program
        self._stretches = stretches_from(program, ends)
        self._crowds = crowds_of(program, self._stretches)
        self._top_order = in_top_order(program, self._stretches)
        self._ahead = all_ahead(self._top_order, self._stretches, self._crowds)

    def has(self, value):
        """Whether any value is a declaration of the table."""
        return is_id(value) and value in self._stretches

    def _require(self, declarations):
        for declaration in declarations:
            if not self.has(declaration):
                raise UnknownId(declaration)

    def declarations(self):
        """The list of the declarations, in reading order."""
        return list(self._stretches)

    def top_order(self):
        """The list of the declarations, in the top order."""
        return list(self._top_order)

    def stretch(self, declaration):
        """The Stretch of a declaration, with its blocks in reading order."""
        self._require([declaration])
        return self._stretches[declaration]

    def meets(self, one, other):
        """Whether the stretches of two declarations meet."""
        self._require([one, other])
        return one == other or one in self._ahead[other] or other in self._ahead[one]

    def ahead(self, declaration):
        """The list of those ahead of a declaration, in the top order."""
        self._require([declaration])
        return list(self._ahead[declaration])

    def crowd(self, block):
        """The list of the declarations whose stretch has a block, in reading order."""
        if self.program.kind_of(block) != "block":
            raise UnknownId(block)
        return list(self._crowds[block])

    def common(self, declarations):
        """The list of the blocks that all stretches of a list have, in reading order."""
        self._require(declarations)
        blocks = self.program.blocks()
        for declaration in declarations:
            blocks = [block for block in blocks if block in self._stretches[declaration]]
        return blocks

    def unlike(self, declarations):
        """Whether each two different declarations of a list meet."""
        self._require(declarations)
        return all([self.meets(one, other) for one in declarations for other in declarations])

    def meeting(self):
        """The list of the pairs of declarations whose stretches meet, in reading order."""
        order = self.declarations()
        index = {declaration: at for at, declaration in enumerate(order)}
        pairs = []
        for declaration in order:
            for other in self._ahead[declaration]:
                pairs.append(sorted([index[declaration], index[other]]))
        return [(order[first], order[second]) for first, second in sorted(pairs)]

    def clashing(self):
        """The list of those pairs whose stretches meet that have one name."""
        names = self.program.names()
        return [(one, other) for one, other in self.meeting() if names[one] == names[other]]

    def greatest_crowd(self):
        """The pair of the first block whose crowd is one of the longest, and this crowd."""
        blocks = self.program.blocks()
        sizes = [len(self._crowds[block]) for block in blocks]
        first = blocks[sizes.index(max(sizes))]
        return (first, self.crowd(first))

    def __len__(self):
        return len(self._stretches)

    def __bool__(self):
        return True

    def __repr__(self):
        return f"Table({len(self._stretches)} declarations)"


def stretches_from(program, ends):
    """The dict from declarations to their stretches, from the ends that a dict has for each one."""
    order = program.blocks()
    stretches = {}
    for declaration in ends:
        top = program.block_of(declaration)
        inside = {top: True}
        for end in ends[declaration]:
            add_way_up(program, inside, end)
        blocks = [block for block in order if block in inside]
        stretches[declaration] = Stretch(declaration, top, blocks)
    return stretches


def add_way_up(program, inside, end):
    """Adds the blocks from an end up to the first one that a dict has already."""
    for block in program.path(end):
        if block in inside:
            return
        inside[block] = True


def crowds_of(program, stretches):
    """The dict from all blocks to the lists of the declarations whose stretches have them."""
    crowds = {block: [] for block in program.blocks()}
    for declaration in stretches:
        for block in stretches[declaration].blocks():
            crowds[block].append(declaration)
    return crowds


def in_top_order(program, stretches):
    """The list of the declarations by the depths of their tops, and then by reading order."""
    ranked = []
    for at, declaration in enumerate(stretches):
        ranked.append((program.depth(stretches[declaration].top), at, declaration))
    return [declaration for _, _, declaration in sorted(ranked)]


def all_ahead(top_order, stretches, crowds):
    """The dict from the declarations to the lists of those ahead, in the top order."""
    place = {declaration: at for at, declaration in enumerate(top_order)}
    ahead = {}
    for declaration in top_order:
        # All that are ahead have the top of the declaration, so they are in the crowd of this block.
        crowd = crowds[stretches[declaration].top]
        places = sorted([place[other] for other in crowd if place[other] < place[declaration]])
        ahead[declaration] = [top_order[at] for at in places]
    return ahead
