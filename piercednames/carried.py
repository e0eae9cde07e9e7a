"""Wide stretches: those into which calls are carried."""

from piercednames.calls import Calls
from piercednames.errors import UnknownId
from piercednames.stretches import Table


class WideTable(Table):
    """The wide stretches of all declarations whose blocks are alive. It never changes."""

    def __init__(self, program):
        self._calls = Calls(program)
        self._reasons = all_reasons(program, self._calls)
        self._keep(program, {
            declaration: [block for block, _ in self._reasons[declaration]]
            for declaration in self._reasons
        })

    def alive_blocks(self):
        """The list of the alive blocks, in reading order."""
        return [block for block in self.program.blocks() if self._calls.is_alive(block)]

    def region(self, block):
        """The procedure to whose region a block belongs, None for that of the root."""
        if self.program.kind_of(block) != "block":
            raise UnknownId(block)
        return self._calls.regions[block]

    def wants(self, declaration):
        """The list of what a procedure wants, in reading order."""
        if self.program.body(declaration) is None:
            raise UnknownId(declaration)
        wanted = self._calls.wanted[declaration]
        return [thing for thing in self.program.declarations() if thing in wanted]

    def reason(self, declaration, block):
        """A pair (use, rows): why the wide stretch of a declaration has a block."""
        stretch = self.stretch(declaration)
        if block not in stretch or block == stretch.top:
            raise UnknownId(block)
        reasons = self._reasons[declaration]
        return [reason for end, reason in reasons if block in self.program.path(end)][0]

    def __repr__(self):
        return f"WideTable({len(self._stretches)} declarations)"


def all_reasons(program, calls):
    """The dict from the declarations of the wide table to the ends of their wide stretches.

    Each end is a pair of an alive block and a reason for the blocks from it upward.
    """
    reasons = {}
    for declaration in program.declarations():
        if calls.is_alive(program.block_of(declaration)):
            reasons[declaration] = []
    for use in program.uses():
        block = program.block_of(use)
        if calls.is_alive(block):
            reasons[program.meaning(use)].append((block, (use, ())))
    for row, _, called in calls.call_rows:
        block = program.block_of(row)
        if calls.is_alive(block):
            for declaration in calls.wanted[called]:
                use, rows = calls.wanted[called][declaration]
                reasons[declaration].append((block, (use, (row, *rows))))
    return reasons
