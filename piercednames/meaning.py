"""What uses find by names alone, and the faults of names."""

from piercednames.errors import Caught, Doubled


def found(program, use):
    """The declaration that a use finds."""
    own = program.meaning(use)
    return found_among(program, first_named(program), use, program.name_of(own))


def faults(program):
    """The list of the faults of names: all doubled ones, then all caught ones."""
    return doubled_faults(program) + caught_faults(program)


def is_right(program):
    """Whether there are no faults of names."""
    return len(faults(program)) == 0


def check_right(program):
    """Raises Doubled or Caught for the first fault of names."""
    check_single(program)
    caught = caught_faults(program)
    if caught:
        _, use, own, other, block = caught[0]
        raise Caught(use, own, other, block)


def check_single(program):
    """Raises Doubled for the first doubled fault."""
    doubled = doubled_faults(program)
    if doubled:
        _, first, second, block = doubled[0]
        raise Doubled(first, second, block)


def first_named(program):
    """The dict from the pairs (block, name) to the first declaration of the block with the name."""
    named = {}
    for declaration in program.declarations():
        named.setdefault((program.block_of(declaration), program.name_of(declaration)), declaration)
    return named


def found_among(program, named, use, name):
    """The declaration that a name finds from the block of a use upward."""
    for block in program.path(program.block_of(use)):
        if (block, name) in named:
            return named[block, name]
    return None


def doubled_faults(program):
    """The list of the doubled faults, in the order of the second declarations."""
    named = first_named(program)
    doubled = []
    for second in program.declarations():
        block = program.block_of(second)
        first = named[block, program.name_of(second)]
        if first != second:
            doubled.append(("doubled", first, second, block))
    return doubled


def caught_faults(program):
    """The list of the caught faults, in the order of the uses."""
    named = first_named(program)
    caught = []
    for use in program.uses():
        own = program.meaning(use)
        other = found_among(program, named, use, program.name_of(own))
        if other != own:
            caught.append(("caught", use, own, other, program.block_of(other)))
    return caught
