"""The errors of the package.

Each one keeps what it was given as attributes, and the name of its class as code.
"""


class NamesError(ValueError):
    """A value that cannot be taken, or a deed that cannot be done."""


class Missing(LookupError):
    """Something that was asked for is not there."""


class InvalidName(NamesError):
    """A value stands where a name is wanted."""

    def __init__(self, value):
        self.code = "InvalidName"
        self.value = value


class InvalidNumber(NamesError):
    """A value is no number of the wanted range."""

    def __init__(self, value):
        self.code = "InvalidNumber"
        self.value = value


class BadText(NamesError):
    """A text is none of a program: its first fault."""

    def __init__(self, line, place, why):
        self.code = "BadText"
        self.line = line
        self.place = place
        self.why = why


class DuplicateName(NamesError):
    """A name or label is given a second time."""

    def __init__(self, name):
        self.code = "DuplicateName"
        self.name = name


class Misused(NamesError):
    """A use means a declaration that does not fit it."""

    def __init__(self, use):
        self.code = "Misused"
        self.use = use


class OutOfReach(NamesError):
    """A use means a declaration that is not in its reach."""

    def __init__(self, use):
        self.code = "OutOfReach"
        self.use = use


class Lost(NamesError):
    """A use means what is no declaration of the program."""

    def __init__(self, use):
        self.code = "Lost"
        self.use = use


class Doubled(NamesError):
    """Two declarations of one block have one name."""

    def __init__(self, first, second, block):
        self.code = "Doubled"
        self.first = first
        self.second = second
        self.block = block


class Caught(NamesError):
    """A use finds another declaration than its own."""

    def __init__(self, use, own, other, block):
        self.code = "Caught"
        self.use = use
        self.own = own
        self.other = other
        self.block = block


class InvalidFixed(NamesError):
    """An item of a list of fixed declarations cannot stand there."""

    def __init__(self, at):
        self.code = "InvalidFixed"
        self.at = at


class InvalidNaming(NamesError):
    """A declaration has no possible name in a naming."""

    def __init__(self, declaration):
        self.code = "InvalidNaming"
        self.declaration = declaration


class NoSpare(NamesError):
    """There are too few names for a way between namings."""

    def __init__(self):
        self.code = "NoSpare"


class TooMany(NamesError):
    """There are more declarations than a way may have."""

    def __init__(self, most):
        self.code = "TooMany"
        self.most = most


class InvalidWorth(NamesError):
    """The worth of a declaration is none."""

    def __init__(self, declaration):
        self.code = "InvalidWorth"
        self.declaration = declaration


class Beyond(NamesError):
    """Two held declarations with one name meet."""

    def __init__(self, first, second):
        self.code = "Beyond"
        self.first = first
        self.second = second


class InvalidEdit(NamesError):
    """An item of a call has none of the forms of an edit."""

    def __init__(self, at):
        self.code = "InvalidEdit"
        self.at = at


class NotFit(NamesError):
    """A row is not of the kind that a step wants."""

    def __init__(self, row):
        self.code = "NotFit"
        self.row = row


class NotAbove(NamesError):
    """A block is not above the one of the row."""

    def __init__(self, block):
        self.code = "NotAbove"
        self.block = block


class Ring(NamesError):
    """A row would come to stand within itself."""

    def __init__(self, row):
        self.code = "Ring"
        self.row = row


class NoRoom(NamesError):
    """There is no position for a row beside this one."""

    def __init__(self, row):
        self.code = "NoRoom"
        self.row = row


class SamePerson(NamesError):
    """A person is there already."""

    def __init__(self, person):
        self.code = "SamePerson"
        self.person = person


class Unrelated(NamesError):
    """Two programs have one row with different contents."""

    def __init__(self, row):
        self.code = "Unrelated"
        self.row = row


class Argued(NamesError):
    """An attribute has several versions."""

    def __init__(self, attribute):
        self.code = "Argued"
        self.attribute = attribute


class Unsound(NamesError):
    """A joined program would have a fault of structure."""

    def __init__(self, fault):
        self.code = "Unsound"
        self.fault = fault


class Moved(NamesError):
    """A net whose choices are asked for has a place entry."""

    def __init__(self, attribute):
        self.code = "Moved"
        self.attribute = attribute


class NotFull(NamesError):
    """A choice lacks what one of its attributes needs."""

    def __init__(self, attribute):
        self.code = "NotFull"
        self.attribute = attribute


class InvalidWay(NamesError):
    """A value is none of the ways of a run."""

    def __init__(self, value):
        self.code = "InvalidWay"
        self.value = value


class InvalidItem(NamesError):
    """An item of a list of inputs or choices is none."""

    def __init__(self, at):
        self.code = "InvalidItem"
        self.at = at


class InvalidCells(NamesError):
    """A dealing has no cell for a declaration."""

    def __init__(self, declaration):
        self.code = "InvalidCells"
        self.declaration = declaration


class SharedCell(NamesError):
    """Two declarations of one block have one cell."""

    def __init__(self, first, second):
        self.code = "SharedCell"
        self.first = first
        self.second = second


class Ended(NamesError):
    """A run has ended already."""

    def __init__(self):
        self.code = "Ended"


class InvalidDeed(NamesError):
    """An item of a call has none of the forms of a deed."""

    def __init__(self, at):
        self.code = "InvalidDeed"
        self.at = at


class BadJournal(NamesError):
    """A text is no journal: the line of its first wrong deed."""

    def __init__(self, line):
        self.code = "BadJournal"
        self.line = line


class Busy(NamesError):
    """A desk has drafts or a merge."""

    def __init__(self):
        self.code = "Busy"


class NoDraft(NamesError):
    """A person has no draft."""

    def __init__(self, person):
        self.code = "NoDraft"
        self.person = person


class HasDraft(NamesError):
    """A person has a draft."""

    def __init__(self, person):
        self.code = "HasDraft"
        self.person = person


class NoMerge(NamesError):
    """A desk has no merge."""

    def __init__(self):
        self.code = "NoMerge"


class UnknownId(Missing):
    """A value is the id of nothing of the wanted kind."""

    def __init__(self, thing):
        self.code = "UnknownId"
        self.thing = thing


class UnknownName(Missing):
    """A name or label is that of nothing."""

    def __init__(self, name):
        self.code = "UnknownName"
        self.name = name


class UnknownPerson(Missing):
    """A value is none of the people."""

    def __init__(self, person):
        self.code = "UnknownPerson"
        self.person = person


class UnknownAttribute(Missing):
    """A value is none of the attributes."""

    def __init__(self, attribute):
        self.code = "UnknownAttribute"
        self.attribute = attribute


class NoNaming(IndexError):
    """A value is the number of no naming."""

    def __init__(self, number):
        self.code = "NoNaming"
        self.number = number


class NothingLeft(IndexError):
    """There is nothing to undo or redo."""

    def __init__(self):
        self.code = "NothingLeft"
