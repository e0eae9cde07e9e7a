"""Namings of a table that are apart: how many there are, and their numbers.

names is a list of different names; fixed is a list of declarations of the root that keep theirs.
"""

from piercednames.errors import InvalidFixed, InvalidNaming, NoNaming
from piercednames.words import is_number


def fewest_names(table):
    """The size of the greatest crowd: so many names are needed."""
    _, crowd = table.greatest_crowd()
    return len(crowd)


def count_namings(table, names, *, fixed=()):
    """The number of the namings that are apart."""
    check_fixed(table, names, fixed)
    return product_of(choices_left(table, names, fixed))


def naming_order(table, *, fixed=()):
    """The list of the declarations in the naming order: the fixed ones, then the others."""
    first = [thing for thing in table.declarations() if thing in fixed]
    return first + [thing for thing in table.top_order() if thing not in fixed]


def nth_naming(table, names, number, *, fixed=()):
    """The naming with a number, a dict in the naming order."""
    check_fixed(table, names, fixed)
    left = choices_left(table, names, fixed)
    if not is_number(number, 0, product_of(left) - 1):
        raise NoNaming(number)
    return naming_of(table, names, fixed, digits_of(number, left))


def number_of(table, names, naming, *, fixed=()):
    """The number of a naming."""
    check_fixed(table, names, fixed)
    check_naming(table, names, naming, fixed)
    number = 0
    for _, name, free in assigned(table, names, naming, fixed):
        number = number * len(free) + free.index(name)
    return number


def some_namings(table, names, *, start=0, many=20, fixed=()):
    """A generator of at most so many namings, from the one with the number start on."""
    check_fixed(table, names, fixed)
    left = choices_left(table, names, fixed)
    for number in range(start, min(start + many, product_of(left))):
        yield naming_of(table, names, fixed, digits_of(number, left))


def is_apart(table, naming):
    """Whether any two declarations with one name have stretches that are apart."""
    for declaration in table.declarations():
        if naming[declaration] in [naming[other] for other in table.ahead(declaration)]:
            return False
    return True


def check_fixed(table, names, fixed):
    """Raises InvalidFixed with the first item of a list that cannot be fixed."""
    kept = []
    for at, declaration in enumerate(fixed):
        if not table.has(declaration) or table.stretch(declaration).top != table.program.root:
            raise InvalidFixed(at)
        # An item that stands ahead has its own name, so its name tells this, too.
        name = table.program.name_of(declaration)
        if name not in names or name in kept:
            raise InvalidFixed(at)
        kept.append(name)


def check_naming(table, names, naming, fixed):
    """Raises InvalidNaming with the first declaration whose name in a naming cannot stand there."""
    naming = own_entries(table, naming)
    order = naming_order(table, fixed=fixed)
    for at, declaration in enumerate(order):
        name = naming.get(declaration)
        if name not in names:
            raise InvalidNaming(declaration)
        if declaration in fixed and name != table.program.name_of(declaration):
            raise InvalidNaming(declaration)
        if name in [naming[other] for other in earlier_ones(table, order, at)]:
            raise InvalidNaming(declaration)


def own_entries(table, naming):
    """The dict of the entries of a naming about the declarations of a table."""
    # An id with True in the place of 1 equals the id as a key, but is no declaration.
    return {key: naming[key] for key in naming if table.has(key)}


def earlier_ones(table, order, at):
    """The list of those ahead of a place in the naming order that meet the declaration there."""
    return [other for other in order[:at] if table.meets(other, order[at])]


def choices_left(table, names, fixed):
    """The list of the numbers k - c of the declarations that are not fixed, in the naming order."""
    order = naming_order(table, fixed=fixed)
    left = []
    for at in range(len(fixed), len(order)):
        left.append(len(names) - len(earlier_ones(table, order, at)))
    return left


def product_of(left):
    """The product of a list of numbers, 0 if one of them is below 1."""
    result = 1
    for many in left:
        result = result * max(many, 0)
    return result


def digits_of(number, left):
    """The list of the digits of a number of a naming, the most significant one first."""
    digits = []
    for many in reversed(left):
        number, digit = divmod(number, many)
        digits.append(digit)
    return digits[::-1]


def naming_of(table, names, fixed, digits):
    """The naming with these digits."""
    order = naming_order(table, fixed=fixed)
    naming = {declaration: table.program.name_of(declaration) for declaration in order[:len(fixed)]}
    for at, digit in enumerate(digits, start=len(fixed)):
        taken = [naming[other] for other in earlier_ones(table, order, at)]
        naming[order[at]] = [name for name in names if name not in taken][digit]
    return naming


def assigned(table, names, naming, fixed):
    """The list of (declaration, name, free names) of those that are not fixed, in the naming order."""
    order = naming_order(table, fixed=fixed)
    found = []
    for at in range(len(fixed), len(order)):
        taken = [naming[other] for other in earlier_ones(table, order, at)]
        free = [name for name in names if name not in taken]
        found.append((order[at], naming[order[at]], free))
    return found
