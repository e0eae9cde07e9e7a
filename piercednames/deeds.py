"""What deeds make of a base, drafts and a merge."""

from piercednames.drafts import Draft
from piercednames.errors import Busy, HasDraft, InvalidDeed, InvalidName, NoDraft, NoMerge, SamePerson
from piercednames.journals import deed_text, is_deed
from piercednames.meaning import check_right
from piercednames.merges import Merge
from piercednames.texts import read_text
from piercednames.words import is_name


class Situation:
    """What a desk has at one time. It never changes, and its drafts and merge are not changed.

    ground: the base. drafts: the dict from people to their drafts. merge: the merge, or None.
    texts: the list of the texts of the deeds that have led here.
    """

    def __init__(self, ground, drafts, merge, texts):
        self.ground = ground
        self.drafts = drafts
        self.merge = merge
        self.texts = texts

    def draft_of(self, person):
        """The draft of a person; raises NoDraft for any value that has none."""
        if not is_name(person) or person not in self.drafts:
            raise NoDraft(person)
        return self.drafts[person]

    def held(self):
        """The merge; raises NoMerge."""
        if self.merge is None:
            raise NoMerge()
        return self.merge

    def other_drafts(self, person):
        """The dict of the drafts of all others."""
        return {other: self.drafts[other] for other in self.drafts if other != person}


def after_deeds(situation, deeds):
    """The Situation after some deeds."""
    for at, deed in enumerate(deeds):
        if not is_deed(deed):
            raise InvalidDeed(at)
    for deed in deeds:
        situation = after_deed(situation, deed)
    return situation


def after_deed(situation, deed):
    word, *items = deed
    action = ACTIONS[word]
    ground, drafts, merge = action(situation, *items)
    return Situation(ground, drafts, merge, [*situation.texts, deed_text(deed)])


def do_base(situation, text):
    """The base, the drafts and the merge after this deed, as from all functions that follow."""
    if situation.drafts or situation.merge is not None:
        raise Busy()
    return (read_text(text), {}, None)


def do_draft(situation, person):
    if not is_name(person):
        raise InvalidName(person)
    if person in situation.drafts:
        raise HasDraft(person)
    if situation.merge is not None and person in situation.merge.people():
        raise SamePerson(person)
    return with_draft(situation, Draft(situation.ground, person))


def do_edit(situation, person, edit):
    draft = situation.draft_of(person).twin()
    draft.edit(edit)
    return with_draft(situation, draft)


def with_draft(situation, draft):
    drafts = situation.other_drafts(draft.person)
    drafts[draft.person] = draft
    return (situation.ground, drafts, situation.merge)


def do_close(situation, person):
    situation.draft_of(person)
    return (situation.ground, situation.other_drafts(person), situation.merge)


def do_join(situation, person):
    net = situation.draft_of(person).net()
    merge = Merge(situation.ground) if situation.merge is None else situation.merge.twin()
    merge.add_net(net)
    return (situation.ground, situation.other_drafts(person), merge)


def do_settle(situation, attribute, person):
    merge = situation.held().twin()
    merge.settle(attribute, person)
    return (situation.ground, situation.drafts, merge)


def do_accept(situation):
    program = free_merge(situation).result()
    check_right(program)
    return (program.respaced(), {}, None)


def do_heal(situation):
    plan = free_merge(situation).heal()
    return (plan.result().respaced(), {}, None)


def free_merge(situation):
    """The merge, beside which there must be no drafts."""
    merge = situation.held()
    if situation.drafts:
        raise HasDraft(sorted(situation.drafts)[0])
    return merge


def do_leave(situation):
    situation.held()
    return (situation.ground, situation.drafts, None)


ACTIONS = {
    "base": do_base,
    "draft": do_draft,
    "edit": do_edit,
    "close": do_close,
    "join": do_join,
    "settle": do_settle,
    "accept": do_accept,
    "heal": do_heal,
    "leave": do_leave,
}
