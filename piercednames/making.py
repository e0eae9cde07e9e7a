"""Programs made from trees with labels."""

from piercednames.errors import DuplicateName, InvalidName, UnknownName
from piercednames.numbering import Numbering
from piercednames.programs import Program
from piercednames.words import is_name


def make(tree, *, names=None, owner=""):
    """A program from a tree, in which labels stand in the place of ids."""
    numbering = Numbering(tree, owner)
    labelled = by_label(numbering.declared)
    meanings = {}
    for use in numbering.used:
        label = numbering.used[use]
        if label not in labelled:
            raise UnknownName(label)
        meanings[use] = labelled[label]
    given = given_names(numbering.declared, names)
    program = Program(numbering.root, numbering.placed, given, meanings, numbering.told)
    for declaration in program.declarations():
        if not is_name(given[declaration]):
            raise InvalidName(given[declaration])
    return program


def by_label(declared):
    """The dict from the labels to what they declare."""
    labelled = {}
    for declaration in declared:
        label = declared[declaration]
        if label in labelled:
            raise DuplicateName(label)
        labelled[label] = declaration
    return labelled


def given_names(declared, names):
    """The dict from the declarations to the names that a dict has for their labels."""
    names = {} if names is None else names
    return {thing: names.get(declared[thing], declared[thing]) for thing in declared}
