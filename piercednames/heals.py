"""Heals of a table: which declarations keep their names, and what the others are called."""

from piercednames.errors import Beyond, InvalidWorth, UnknownId
from piercednames.rivals import Rivals
from piercednames.words import fresh_names, is_number

LEAST_WORTH = 1
GREATEST_WORTH = 1000


class Plan:
    """What a heal keeps and renames. It never changes."""

    def __init__(self, table, worths, held, avoid):
        """worths is a dict from all declarations of the table, held a list."""
        self._table = table
        self._barred = barred_by(table, held)
        self._rivals = rivals_by_name(table, worths, [*held, *self._barred])
        chosen = [thing for name in self._rivals for thing in self._rivals[name].chosen()]
        self._kept = in_order_of(table, [*held, *chosen])
        names = table.program.names()
        renamed = [thing for thing in table.declarations() if thing not in self._kept]
        fresh = fresh_names(len(renamed), [*avoid, *list(names.values())])
        self._renames = dict(zip(renamed, fresh))
        self.worth = sum([worths[thing] for thing in self._kept])

    def kept(self):
        """The list of the declarations that keep their names, in reading order."""
        return list(self._kept)

    def renames(self):
        """The dict from the others, in reading order, to their fresh names."""
        return {thing: self._renames[thing] for thing in self._renames}

    def barred(self):
        """The list of the barred declarations, in reading order."""
        return list(self._barred)

    def weights(self, name):
        """The dict from blocks, in reading order, to the weights for a name, {} for any other value."""
        if not isinstance(name, str) or name not in self._rivals:
            return {}
        weights = self._rivals[name].weights()
        return {block: weights[block] for block in self._table.program.blocks() if block in weights}

    def always_kept(self):
        """The list, in reading order, of the free ones in every good lot of the greatest sum."""
        always = [thing for name in self._rivals for thing in self._rivals[name].always()]
        return in_order_of(self._table, always)

    def never_kept(self):
        """The list, in reading order, of the free ones in no good lot of the greatest sum."""
        never = [thing for name in self._rivals for thing in self._rivals[name].never()]
        return in_order_of(self._table, never)

    def result(self):
        """The program with the new names."""
        return self._table.program.renamed(self._renames)

    def __repr__(self):
        return f"Plan({len(self._renames)} renames)"


def heal(table, *, worths=None, held=(), avoid=()):
    """The Plan of a table."""
    given = {} if worths is None else worths
    check_worths(table, given)
    for thing in held:
        if not table.has(thing):
            raise UnknownId(thing)
    held_ones = in_order_of(table, held)
    check_held(table, held_ones)
    full = {thing: given.get(thing, LEAST_WORTH) for thing in table.declarations()}
    return Plan(table, full, held_ones, avoid)


def check_worths(table, worths):
    """Raises UnknownId or InvalidWorth for the first wrong key or worth of a dict."""
    unknown = [key for key in worths if not table.has(key)]
    if unknown:
        raise UnknownId(sorted(unknown, key=order_key)[0])
    for declaration in sorted(worths):
        if not is_number(worths[declaration], LEAST_WORTH, GREATEST_WORTH):
            raise InvalidWorth(declaration)


def order_key(value):
    """What any keys can be sorted by: ids, and what is like them, in their order."""
    # Values of different kinds do not compare, and neither do tuples that have such.
    if isinstance(value, int):
        return (0, value)
    if isinstance(value, str):
        return (1, value)
    if isinstance(value, tuple):
        return (2, [order_key(item) for item in value])
    return (3, "")


def check_held(table, held):
    """Raises Beyond for the first two held ones with one name that meet."""
    for at, first in enumerate(held):
        for second in held[at + 1:]:
            if are_rivals(table, first, second):
                raise Beyond(first, second)


def are_rivals(table, one, other):
    """Whether two declarations have one name and meet."""
    program = table.program
    return program.name_of(one) == program.name_of(other) and table.meets(one, other)


def barred_by(table, held):
    """The list, in reading order, of those that are not held and cannot be kept beside the held ones."""
    barred = []
    for thing in table.declarations():
        if thing not in held and any([are_rivals(table, thing, other) for other in held]):
            barred.append(thing)
    return barred


def rivals_by_name(table, worths, others):
    """The dict from names to the Rivals, the declarations that are not among the others."""
    named = {}
    for thing in table.declarations():
        if thing not in others:
            named.setdefault(table.program.name_of(thing), []).append(thing)
    return {name: Rivals(table, worths, named[name]) for name in named}


def in_order_of(table, things):
    """The list of some declarations of a table in reading order, each one once."""
    return [thing for thing in table.declarations() if thing in things]
