"""Programs read from texts."""

from piercednames.errors import BadText
from piercednames.layout import Layout
from piercednames.numbering import Numbering
from piercednames.parsing import parse
from piercednames.programs import Program


def read_text(text, *, owner=""):
    """The program with a text."""
    numbering, meanings = understood(text, owner, {})
    return Program(
        numbering.root, numbering.placed, numbering.declared, meanings, numbering.told
    )


def scan_text(text, *, seen=None):
    """The list of a pair (name, own) for each use of a text, in reading order.

    own tells whether the text declares the name for the use. seen has further names, with the
    numbers of their parameters, -1 for a variable.
    """
    numbering, meanings = understood(text, "", {} if seen is None else seen)
    return [(numbering.used[use], meanings[use] is not None) for use in numbering.used]


def understood(text, owner, seen):
    """The Numbering of a text, and the dict from its uses to meanings, None for what is seen."""
    if not isinstance(text, str):
        raise BadText(0, 0, "form")
    parsing = parse(text)
    numbering = Numbering(parsing.tree, owner)
    layout = Layout(numbering.root, numbering.placed)
    named = named_in_blocks(numbering, layout, parsing.declared)
    meanings = {}
    for use, (line, place) in zip(numbering.used, parsing.used):
        name = numbering.used[use]
        meaning = find(layout, named, layout.homes[use], name)
        many = seen.get(name) if meaning is None else layout.many[meaning]
        if many is None:
            raise BadText(line, place, "unknown")
        if many != layout.many[use]:
            raise BadText(line, place, "kind")
        meanings[use] = meaning
    return numbering, meanings


def named_in_blocks(numbering, layout, places):
    """The dict from the pairs (block, name) to the declarations of the block with the name."""
    named = {}
    for declaration, (line, place) in zip(numbering.declared, places):
        key = (layout.homes[declaration], numbering.declared[declaration])
        if key in named:
            raise BadText(line, place, "twice")
        named[key] = declaration
    return named


def find(layout, named, block, name):
    """The declaration that a name finds from a block upward, None without one."""
    while block is not None:
        if (block, name) in named:
            return named[block, name]
        block = layout.homes[block]
    return None
