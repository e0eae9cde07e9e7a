"""Desks, said a second time in another way: the state is worked out anew from all deeds each time."""

import random

from piercednames.drafts import Draft
from piercednames.errors import Missing, NamesError
from piercednames.heals import heal
from piercednames.joining import joined, structure_faults
from piercednames.meaning import faults
from piercednames.nets import Net
from piercednames.stretches import Table
from piercednames.texts import read_text
from piercednames.words import is_name
from tests.editing import Editor

ITEMS = {"base": 2, "draft": 2, "edit": 3, "close": 2, "join": 2, "settle": 3, "accept": 1, "heal": 1, "leave": 1}


class Refused(Exception):
    """The code of an error and what it bears."""


def need(holds, *bears):
    if not holds:
        raise Refused(*bears)


class Model:
    """What some deeds lead to: the base, the edits of each draft, the nets of the merge and its settlements."""

    def __init__(self, deeds=()):
        self.base, self.edits, self.nets, self.settled = read_text(""), {}, None, {}
        for deed in deeds:
            getattr(self, "do_" + deed[0])(*deed[1:])

    def draft(self, person):
        draft = Draft(self.base, person)
        draft.edit(*self.edits[person])
        return draft

    def whole(self):
        whole = Net.none()
        for net in self.nets:
            whole = whole + net
        return whole

    def net(self):
        net = self.whole()
        for attribute, person in self.settled.items():
            net = net.settled(attribute, person)
        return net

    def do_base(self, text):
        need(not self.edits and self.nets is None, "Busy")
        try:
            self.base = read_text(text)
        except NamesError as error:
            raise Refused("BadText", error.line, error.place, error.why) from error

    def do_draft(self, person):
        need(is_name(person), "InvalidName", person)
        need(person not in self.edits, "HasDraft", person)
        need(self.nets is None or person not in self.whole().people(), "SamePerson", person)
        self.edits[person] = []

    def has_draft(self, person):
        need(isinstance(person, str) and person in self.edits, "NoDraft", person)

    def do_edit(self, person, edit):
        self.has_draft(person)
        try:
            self.draft(person).edit(edit)
        except (NamesError, Missing) as error:
            known = dict(vars(error))
            raise Refused(known.pop("code"), *known.values()) from error
        self.edits[person] = [*self.edits[person], edit]

    def do_close(self, person):
        self.has_draft(person)
        del self.edits[person]

    def do_join(self, person):
        self.has_draft(person)
        net = self.draft(person).net()
        before = self.whole() if self.nets is not None else Net.none()
        self.nets = [*(self.nets or []), net]
        for attribute in list(self.settled):
            worths = [worth for worth, _ in before.versions(attribute)]
            if attribute in net and net.worth_of(attribute) not in worths:
                del self.settled[attribute]
        del self.edits[person]

    def do_settle(self, attribute, person):
        need(self.nets is not None, "NoMerge")
        whole = self.whole()
        need(any(attribute == known for known in whole.attributes()), "UnknownAttribute", attribute)
        need(any(person in people for _, people in whole.versions(attribute)), "UnknownPerson", person)
        self.settled[attribute] = person

    def result(self):
        need(self.nets is not None, "NoMerge")
        need(not self.edits, "HasDraft", min(self.edits, default=None))
        net = self.net()
        need(not net.argued(), "Argued", *net.argued()[:1])
        wrong = structure_faults(self.base, net)
        need(not wrong, "Unsound", *wrong[:1])
        return joined(self.base, net)

    def finish(self, program):
        self.base, self.nets, self.settled = program.respaced(), None, {}

    def do_accept(self):
        program = self.result()
        for word, *bears in faults(program):
            raise Refused(word.capitalize(), *bears)
        self.finish(program)

    def do_heal(self):
        self.finish(heal(Table(self.result())).result())

    def do_leave(self):
        need(self.nets is not None, "NoMerge")
        self.nets, self.settled = None, {}


class ReferenceDesk:
    """The steps that are done and those that can be redone, each a tuple of deeds."""

    def __init__(self):
        self.done, self.undone = [], []

    def deeds(self):
        return [deed for step in self.done for deed in step]

    def model(self):
        return Model(self.deeds())

    def do(self, deeds):
        for at, deed in enumerate(deeds):
            fine = isinstance(deed, tuple) and deed and isinstance(deed[0], str) and ITEMS.get(deed[0]) == len(deed)
            need(fine, "InvalidDeed", at)
        Model([*self.deeds(), *deeds])
        if deeds:
            self.done.append(tuple(deeds))
            self.undone = []

    def undo(self):
        need(self.done, "NothingLeft")
        self.undone.append(self.done.pop())

    def redo(self):
        need(self.undone, "NothingLeft")
        self.done.append(self.undone.pop())


TEXTS = (
    "", "let x = 1\nblock {\nout x\n}\n", "let a = 2\ndef p(b) {\nout a + b\n}\nblock {\nlet c = 1\ndo p(c)\n}\nread a\nout a",
    "repeat 2 {\nlet k = 1\nif k {\nout k\n} else {\nout 2\n}\n}\n", "out 1\nlet let = 1",
)
PEOPLE = ("ann", "bob", "cid")
WORDS = "rename rename rename rename value value put put put drop move turn lift inline hoist wrap unwrap".split()


class Deeds:
    """Makes random deeds for a model, most of which can be done."""

    def __init__(self, seed):
        self.source = random.Random(seed)
        self.editor = Editor(seed, 0.02, WORDS)

    def deed(self, model):
        source = self.source
        person = source.choice(PEOPLE)
        roll = source.random()
        if roll < 0.03:
            return source.choice([("base", 3), ("draft", "Ann"), ("edit", "zoe", ()), ("join", None), ("settle", (), "ann")])
        if not model.edits and model.nets is None:
            return ("base", source.choice(TEXTS)) if roll < 0.25 or len(model.base) == 0 and roll < 0.7 else ("draft", person)
        if not model.edits and roll < 0.4:
            return (source.choice(["accept", "accept", "heal"]),)
        if model.edits and roll < 0.6:
            person = source.choice(sorted(model.edits))
            draft = model.draft(person)
            return ("edit", person, self.editor.edit(draft.result(), person, draft.next_number))
        if roll < 0.7:
            return ("draft", person)
        if roll < 0.8:
            return ("join", source.choice(sorted(model.edits) or PEOPLE))
        if roll < 0.83:
            return ("close", person)
        if roll < 0.93 and model.nets is not None and model.whole().attributes():
            whole = model.whole()
            attribute = source.choice(whole.argued() or whole.attributes())
            return ("settle", attribute, source.choice([*whole.versions(attribute)[-1][1], person]))
        return (source.choice(["accept", "heal", "leave"]),)
