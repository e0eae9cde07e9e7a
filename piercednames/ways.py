"""Ways from one naming to another one, by renaming one declaration at a time."""

from piercednames.errors import NoSpare, TooMany
from piercednames.namings import check_naming, fewest_names

MOST = 8


def way(table, names, naming, other):
    """A generator of the pairs (declaration, name) that lead from one naming to another one."""
    if len(table) > MOST:
        raise TooMany(MOST)
    check_naming(table, names, naming, ())
    check_naming(table, names, other, ())
    if len(names) <= fewest_names(table):
        raise NoSpare()
    for declaration, name in renames_between(table, names, naming, other):
        yield declaration, name


def renames_between(table, names, naming, other):
    """The list of the renames of a way."""
    renames = []
    for declaration in table.top_order():
        renames = with_one_more(table, names, renames, declaration, naming, other)
    return renames


def with_one_more(table, names, renames, declaration, naming, other):
    """The renames of those earlier in the top order, with those of one more declaration.

    It gets out of the way of the others. Those that it meets meet one another, so that with it they
    are a part of a crowd: there is always a name that none of them has.
    """
    near = {thing: naming[thing] for thing in table.ahead(declaration)}
    own = naming[declaration]
    more = []
    for thing, name in renames:
        if thing in near:
            if name == own:
                own = spare_name(names, [own, *list(near.values())])
                more.append((declaration, own))
            near[thing] = name
        more.append((thing, name))
    if own != other[declaration]:
        more.append((declaration, other[declaration]))
    return more


def spare_name(names, taken):
    return [name for name in names if name not in taken][0]
