"""Where free runs part from what is meant, and cells by which they never do."""

from piercednames.calls import Calls
from piercednames.carried import WideTable
from piercednames.meaning import caught_faults
from piercednames.namings import fewest_names
from piercednames.runs import Run


def parting(program, *, by="callers", cells=None):
    """A list of choices with which a free run has an untrue note, None if there is none."""
    # The run is made for the errors that it raises.
    Run(program, by=by, choices=[], cells=cells)
    calls = Calls(program)
    reason = first_reason(program, calls, by, cells)
    if reason is None:
        return None
    use, rows = reason
    stops = [*rows, program.row_of(use)]
    stops = [*calls.way_to(program.block_of(stops[0])), *stops]
    return until_untrue(program, choices_to(program, stops), by, cells)


def fewest_cells(program):
    """The least number of cells of a dealing by which no free run has an untrue note."""
    return fewest_names(WideTable(program))


def deal_cells(program):
    """The dealt cells, a dict from the declarations, in reading order, to numbers."""
    table = WideTable(program)
    dealt = {}
    for declaration in table.top_order():
        dealt[declaration] = least_besides([dealt[other] for other in table.ahead(declaration)])
    for declaration in program.declarations():
        if not table.has(declaration):
            block = program.block_of(declaration)
            beside = [dealt[other] for other in dealt if program.block_of(other) == block]
            dealt[declaration] = least_besides(beside)
    return {declaration: dealt[declaration] for declaration in program.declarations()}


def least_besides(taken):
    """The least number from 0 on that is not in a list."""
    number = 0
    while number in taken:
        number += 1
    return number


def first_reason(program, calls, by, cells):
    """A pair (use, rows), as the reasons of a wide table, for a use that meets another declaration.

    It does so at the end of a way by these rows, if all is met as it is meant until then. None if
    there is no such use.
    """
    if by == "meaning":
        return None
    if by == "text":
        for _, use, _, _, _ in caught_faults(program):
            if calls.is_alive(program.block_of(use)):
                return (use, ())
        return None
    table = WideTable(program)
    labels = program.names() if by == "callers" or cells is None else cells
    for one, other in table.meeting():
        if labels[one] == labels[other]:
            return reason_against(table, one, other)
    return None


def reason_against(table, one, other):
    """The reason why the stretch of one of two declarations that meet has the block of the other one."""
    top = table.stretch(other).top
    if top in table.stretch(one):
        return table.reason(one, top)
    return table.reason(other, table.stretch(one).top)


def choices_to(program, stops):
    """The choices of a free run by meaning that does these rows as soon as it can.

    The first one stands in the region of the root, each further one in that of the procedure that
    the one ahead calls.
    """
    choices = []
    start = program.root
    for row in stops:
        choices.extend(choices_within(program, start, row))
        content = program.content(row)
        if content[0] == "do":
            choices.append(1)
            start = program.body(program.meaning(content[1]))
    return choices


def choices_within(program, start, row):
    """The choices that lead from the first row of a block to a row of it, or of a block below it."""
    choices = []
    block = program.block_of(row)
    goal = row
    while True:
        rows = program.rows_of(block)
        passed = [0] * sum([choices_past(program, other) for other in rows[:rows.index(goal)]])
        choices = passed + choices
        if block == start:
            return choices
        goal = program.row_of(block)
        choices = choices_into(program.content(goal), block) + choices
        block = program.block_of(goal)


def choices_into(content, block):
    """The choice with which a row enters one of its blocks, as a list; it is empty if there is none."""
    if content[0] == "block":
        return []
    return [0] if content[0] == "if" and content[2] == block else [1]


def choices_past(program, row):
    """How many choices a row takes if all of them are 0."""
    many = 0
    waiting = [row]
    while waiting:
        content = program.content(waiting.pop())
        if content[0] in ("if", "repeat", "do"):
            many += 1
        if content[0] == "if":
            waiting.extend(program.rows_of(content[2]))
        if content[0] == "block":
            waiting.extend(program.rows_of(content[1]))
    return many


def until_untrue(program, choices, by, cells):
    """Those of the choices that a free run takes ahead of its first untrue note."""
    # What the run does behind this note is not foreseen: then without choices it ends soon.
    run = Run(program, by=by, choices=choices, cells=cells)
    taken = 0
    while run.untrue() is None:
        taken = run.choices_taken()
        run.step()
    return choices[:taken]
