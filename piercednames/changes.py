"""What a stack of libraries changes for all clients, and what they could catch of it."""

from piercednames.carried import WideTable
from piercednames.errors import UnknownName
from piercednames.texts import scan_text


def changes(stack, other):
    """The list of the tuples (name, before, after) of the names that are changed, ascending."""
    seen = stack.seen()
    return [(name, seen[name], other.sees(name)) for name in seen if seen[name] != other.sees(name)]


def noticed(stack, other, client):
    """The index of the first use of a client by which it notices the other stack, None without one."""
    changed = [name for name, _, _ in changes(stack, other)]
    seen = stack.seen()
    uses = scan_text(client, seen={name: seen[name][2] for name in seen})
    for at, (name, own) in enumerate(uses):
        if not own and name in changed:
            return at
    return None


def witness(stack, other):
    """A client with one row that notices the other stack, None if no name is changed."""
    changed = changes(stack, other)
    if not changed:
        return None
    name, before, _ = changed[0]
    return row_with(name, before)


def exposed(stack):
    """The ascending list of the exposed names."""
    return sorted(set([name for name, _ in exposures(stack)]))


def exposing(stack, name):
    """A client of two rows that declares a name, and by callers is caught by what it calls."""
    for other, caller in exposures(stack):
        if other == name:
            return f"let {name} = 0\n" + row_with(caller, stack.sees(caller))
    raise UnknownName(name)


def exposures(stack):
    """The list of the pairs of an exposed name and another name, under which a procedure is seen.

    The procedure wants a declaration with the exposed name.
    """
    pairs = []
    tables = {library.name: WideTable(library.program) for library in stack.libraries()}
    seen = stack.seen()
    for name in seen:
        library, declaration, many = seen[name]
        if many >= 0:
            table = tables[library]
            wanted = [table.program.name_of(thing) for thing in table.wants(declaration)]
            pairs.extend([(other, name) for other in wanted if other != name])
    return pairs


def row_with(name, seen):
    """A row of a client that uses a name under which this is seen."""
    _, _, many = seen
    if many < 0:
        return f"out {name}\n"
    arguments = ", ".join(["0"] * many)
    return f"do {name}({arguments})\n"
