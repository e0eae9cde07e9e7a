"""Who calls whom in a program, and what procedures want."""


class Calls:
    """The calls of a program.

    regions: the dict from the blocks, in reading order, to the procedures to whose regions they
    belong, None for that of the root. call_rows: the do rows, as tuples (row, caller, called), where
    the caller is the procedure in whose region the row stands, or None. wanted: the dict from the
    procedures to the dicts from what they want to pairs (use, rows): the first of these do rows
    stands in the region of the procedure, each further one in that of the procedure that the one
    ahead calls, and the use, which means what is wanted, in the region of the last called one.
    """

    def __init__(self, program):
        self._program = program
        self.regions = regions_of(program)
        self.call_rows = []
        for row in program.rows():
            content = program.content(row)
            if content[0] == "do":
                caller = self.regions[program.block_of(row)]
                self.call_rows.append((row, caller, program.meaning(content[1])))
        self._ways = self._found_ways()
        self.wanted = self._found_wants()

    def is_alive(self, block):
        """Whether a block of the program is alive."""
        return self.regions[block] in self._ways

    def way_to(self, block):
        """The tuple of do rows that lead from the root to the region of an alive block.

        The first one stands in the region of the root, each further one in that of the procedure
        that the one ahead calls. No procedure is called twice.
        """
        return self._ways[self.regions[block]]

    def _found_ways(self):
        ways = {None: ()}
        many = 0
        while many < len(ways):
            many = len(ways)
            for row, caller, called in self.call_rows:
                if caller in ways and called not in ways:
                    ways[called] = (*ways[caller], row)
        return ways

    def _found_wants(self):
        wants = self._used_outside()
        many = -1
        while many < total(wants):
            many = total(wants)
            for row, caller, called in self.call_rows:
                if caller is not None:
                    self._hand_on(wants, row, caller, called)
        return wants

    def _used_outside(self):
        """What the procedures want by uses in their own regions."""
        wants = {thing: {} for thing in self._program.declarations() if self._is_procedure(thing)}
        for use in self._program.uses():
            region = self.regions[self._program.block_of(use)]
            meaning = self._program.meaning(use)
            if region is not None and self._is_outside(meaning, region):
                wants[region].setdefault(meaning, (use, ()))
        return wants

    def _hand_on(self, wants, row, caller, called):
        """Gives a caller what the called procedure wants."""
        for declaration in list(wants[called]):
            use, rows = wants[called][declaration]
            if self._is_outside(declaration, caller):
                wants[caller].setdefault(declaration, (use, (row, *rows)))

    def _is_procedure(self, declaration):
        return self._program.body(declaration) is not None

    def _is_outside(self, declaration, procedure):
        """Whether the block of a declaration is neither the body of a procedure nor below it."""
        path = self._program.path(self._program.block_of(declaration))
        return self._program.body(procedure) not in path


def regions_of(program):
    """The dict from the blocks, in reading order, to their regions."""
    regions = {program.root: None}
    for block in program.blocks()[1:]:
        content = program.content(program.row_of(block))
        regions[block] = content[1] if content[0] == "def" else regions[program.parent(block)]
    return regions


def total(wants):
    """How many declarations all procedures want."""
    return sum([len(wants[procedure]) for procedure in wants])
