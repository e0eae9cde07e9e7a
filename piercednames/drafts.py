"""Drafts: edits of a person, one after another."""

from piercednames.changing import drop, move, put, revalue, turn
from piercednames.edits import is_edit
from piercednames.errors import InvalidEdit, InvalidName, NothingLeft
from piercednames.nets import Net
from piercednames.steps import first_number, hoist, inline, lift, unwrap, wrap
from piercednames.words import is_name

# The edits that put new things in.
MAKERS = ("put", "lift", "inline", "wrap")


class Draft:
    """What a person makes of a program by edits."""

    def __init__(self, program, person):
        if not is_name(person):
            raise InvalidName(person)
        self.person = person
        self._base = program
        self._present = program
        self._number = first_number(program, person)
        # The edits that were done, each with the program and the number ahead of it.
        self._past = []

    @property
    def base(self):
        """The program with which the draft begins."""
        return self._base

    @property
    def next_number(self):
        """The number of the next new id."""
        return self._number

    def edit(self, *edits):
        """Does edits, all or none."""
        for at, item in enumerate(edits):
            if not is_edit(item):
                raise InvalidEdit(at)
        done = []
        program, number = self._present, self._number
        for item in edits:
            done.append((item, program, number))
            program, number = after_edit(program, item, self.person, number)
        self._past.extend(done)
        self._present = program
        self._number = number

    def undo(self):
        """Takes the last edit back."""
        if not self._past:
            raise NothingLeft()
        _, self._present, self._number = self._past.pop()

    def edits(self):
        """The list of the edits that were done."""
        return [item for item, _, _ in self._past]

    def result(self):
        """The present program."""
        return self._present

    def net(self):
        """The net between the base and the result."""
        return Net.between(self._base, self._present, self.person)

    def twin(self):
        """An independent draft in the same state."""
        other = Draft(self._base, self.person)
        other._present = self._present
        other._number = self._number
        other._past = list(self._past)
        return other

    def __len__(self):
        return len(self._past)

    def __bool__(self):
        return True

    def __repr__(self):
        return f"Draft({self.person}, {len(self._past)} edits)"


def edited(program, edit, *, person, start):
    """The pair of the program after an edit and the number behind its last new id."""
    if not is_edit(edit):
        raise InvalidEdit(0)
    return after_edit(program, edit, person, start)


def after_edit(program, edit, person, start):
    """As edited, for what surely is an edit."""
    word = edit[0]
    if word in MAKERS:
        made = after_maker(program, edit, person, start)
        # All new things are there, and their numbers are above all others of the person.
        return (made, first_number(made, person))
    return (after_change(program, edit), start)


def after_maker(program, edit, person, start):
    """The program after an edit that puts new things in."""
    word, thing, *rest = edit
    if word == "put":
        after, sketch = rest
        return put(program, thing, after, sketch, person, start)
    if word == "lift":
        many, name = rest
        return lift(program, thing, many, name, person=person, start=start)
    if word == "inline":
        return inline(program, thing, person=person, start=start)
    return wrap(program, thing, rest[0], person=person, start=start)


def after_change(program, edit):
    """The program after an edit without new things."""
    word, thing, *rest = edit
    if word == "rename":
        return program.renamed({thing: rest[0]})
    if word == "drop":
        return drop(program, thing)
    if word == "move":
        block, after = rest
        return move(program, thing, block, after)
    if word == "turn":
        return turn(program, thing, rest[0])
    if word == "value":
        return revalue(program, thing, rest[0])
    if word == "hoist":
        return hoist(program, thing, rest[0])
    return unwrap(program, thing)
