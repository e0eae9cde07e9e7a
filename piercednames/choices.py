"""Choices of the changes of a net: which ones can be made together."""

from itertools import combinations

from piercednames.contents import things_of
from piercednames.errors import Argued, Moved, NotFull, UnknownAttribute
from piercednames.joining import Junction
from piercednames.meaning import faults

# All full choices are without faults exactly if those of so many attributes are.
MOST_CHOSEN = 3


def needs(net, attribute):
    """The ascending list of what an attribute needs."""
    check_choosable(net)
    if attribute not in net:
        raise UnknownAttribute(attribute)
    return needed(net, new_entries(net), attribute)


def fill(net, choice):
    """The ascending list of the least full choice that has all of a choice."""
    check_choosable(net)
    check_choice(net, choice)
    return filled(all_needs(net), choice)


def first_fault(program, net, choice):
    """The first fault of a full choice, None without one."""
    check_choosable(net)
    check_choice(net, choice)
    wanted = all_needs(net)
    for attribute in sorted(choice):
        if any([other not in choice for other in wanted[attribute]]):
            raise NotFull(attribute)
    return fault_of(program, net.chosen(choice))


def least_wrong(program, net):
    """The ascending list of the least wrong choice, None if there is none."""
    check_choosable(net)
    wanted = all_needs(net)
    attributes = net.attributes()
    right = {}
    for size in range(MOST_CHOSEN + 1):
        for choice in combinations(attributes, size):
            full = filled(wanted, choice)
            # Many choices have one fill: its attributes are told by their places.
            key = " ".join([str(attributes.index(attribute)) for attribute in full])
            if key not in right:
                if fault_of(program, net.chosen(full)) is not None:
                    return list(choice)
                right[key] = True
    return None


def all_right(program, net):
    """Whether all full choices are without faults."""
    return least_wrong(program, net) is None


def check_choosable(net):
    """Raises Argued or Moved for the least attribute with which there are no choices."""
    argued = net.argued()
    if argued:
        raise Argued(argued[0])
    for attribute in net.attributes():
        if attribute[0] == "place":
            raise Moved(attribute)


def check_choice(net, choice):
    """Raises UnknownAttribute for the first item of a choice that is no attribute of the net."""
    for attribute in choice:
        if attribute not in net:
            raise UnknownAttribute(attribute)


def new_entries(net):
    """The dict from the things of all new rows to the new entries of these rows."""
    entries = {}
    for attribute in net.attributes():
        word, row = attribute
        if word == "new":
            _, _, content, _ = net.worth_of(attribute)
            entries[row] = attribute
            for _, thing in things_of(content):
                entries[thing] = attribute
    return entries


def needed(net, entries, attribute):
    """The ascending list of what an attribute needs, of the dict that new_entries gives."""
    word, thing = attribute
    worth = net.worth_of(attribute)
    things = [thing]
    if word == "means":
        things.append(worth)
    if word == "new":
        block, _, _, details = worth
        things.append(block)
        things.extend([told for _, told in details if isinstance(told, tuple)])
    found = [entries[other] for other in things if other in entries]
    return sorted(set([entry for entry in found if entry != attribute]))


def all_needs(net):
    """The dict from all attributes of a net to what they need."""
    entries = new_entries(net)
    return {attribute: needed(net, entries, attribute) for attribute in net.attributes()}


def filled(wanted, choice):
    """The ascending list of a choice and of all that it needs, by a dict of what attributes need."""
    full = {}
    waiting = list(choice)
    while waiting:
        attribute = waiting.pop()
        if attribute not in full:
            full[attribute] = True
            waiting.extend(wanted[attribute])
    return sorted(full)


def fault_of(program, net):
    """The first fault of structure, or of names, of a program joined with a net; None without one."""
    junction = Junction(program, net)
    found = junction.faults()
    if not found:
        found = faults(junction.whole())
    return found[0] if found else None
