"""Nets: by what a program differs from its base, for one person or for several."""

from piercednames.contents import flat_content, things_of
from piercednames.errors import Argued, InvalidName, SamePerson, UnknownAttribute, UnknownPerson, Unrelated
from piercednames.words import is_id, is_name

# What can change of the things of these kinds.
CHANGES = {"declaration": "name", "use": "means", "number": "value"}


class Net:
    """Attributes with versions of their worths, and the people who want them. It never changes."""

    WORDS = ("gone", "means", "name", "new", "place", "value")

    def __init__(self, people, versions):
        """people is an ascending list, versions a dict from attributes to lists of (worth, people)."""
        self._people = list(people)
        self._versions = {attribute: list(versions[attribute]) for attribute in sorted(versions)}
        self._flat = {attribute: flat_versions(versions[attribute]) for attribute in versions}

    @staticmethod
    def none():
        """The net without people and attributes."""
        return Net([], {})

    @staticmethod
    def between(base, result, person):
        """The net of a person by which a result differs from its base."""
        if not is_name(person):
            raise InvalidName(person)
        check_related(base, result)
        worths = differing(base, result)
        return Net([person], {attribute: [(worths[attribute], (person,))] for attribute in worths})

    def people(self):
        """The ascending list of the people."""
        return list(self._people)

    def attributes(self):
        """The ascending list of the attributes."""
        return list(self._versions)

    def versions(self, attribute):
        """The list of the pairs (worth, people) of an attribute, by their least person."""
        if attribute not in self:
            raise UnknownAttribute(attribute)
        return list(self._versions[attribute])

    def worth_of(self, attribute):
        """The worth of the only version of an attribute."""
        versions = self.versions(attribute)
        if len(versions) > 1:
            raise Argued(attribute)
        worth, _ = versions[0]
        return worth

    def argued(self):
        """The ascending list of the argued attributes."""
        return [attribute for attribute in self._versions if len(self._versions[attribute]) > 1]

    def chosen(self, attributes):
        """The net with just these attributes of a list."""
        return Net(self._people, {attribute: self.versions(attribute) for attribute in attributes})

    def settled(self, attribute, person):
        """The net in which an attribute has only the version of a person."""
        return self.settled_by({attribute: self.version_of(attribute, person)})

    def version_of(self, attribute, person):
        """The version of an attribute that has a person, as a pair (worth, people)."""
        for worth, people in self.versions(attribute):
            if person in people:
                return (worth, people)
        raise UnknownPerson(person)

    def settled_by(self, chosen):
        """The net in which each attribute of a dict has only the version that the dict tells."""
        versions = {}
        for attribute in self._versions:
            versions[attribute] = [chosen[attribute]] if attribute in chosen else self._versions[attribute]
        return Net(self._people, versions)

    def __add__(self, other):
        for person in self._people:
            if person in other._people:
                raise SamePerson(person)
        versions = {}
        for attribute in sorted(set(self._versions) | set(other._versions)):
            versions[attribute] = joined_versions(
                self._versions.get(attribute, []), other._versions.get(attribute, [])
            )
        return Net(sorted([*self._people, *other._people]), versions)

    def __contains__(self, attribute):
        # True equals 1 as a key, and a list is no key: only pairs of a word and an id are looked up.
        if not isinstance(attribute, tuple) or len(attribute) != 2:
            return False
        word, thing = attribute
        return isinstance(word, str) and is_id(thing) and attribute in self._versions

    def __eq__(self, other):
        return isinstance(other, Net) and self._people == other._people and self._flat == other._flat

    def __len__(self):
        return len(self._versions)

    def __bool__(self):
        return True

    def __repr__(self):
        return f"Net({len(self._versions)} attributes)"


def check_related(base, result):
    """Raises Unrelated with the least row that two programs have with different contents."""
    for row in sorted(base.rows()):
        if result.kind_of(row) == "row":
            if flat_content(base.content(row)) != flat_content(result.content(row)):
                raise Unrelated(row)


def differing(base, result):
    """The dict from the attributes by which a result differs from its base to their worths."""
    worths = {}
    for row in result.rows():
        place = (result.block_of(row), result.position(row))
        if base.kind_of(row) != "row":
            content = result.content(row)
            worths["new", row] = (*place, content, details_of(result, content))
        elif place != (base.block_of(row), base.position(row)):
            worths["place", row] = place
    for row in base.rows():
        if result.kind_of(row) != "row" and result.kind_of(base.block_of(row)) == "block":
            worths["gone", row] = True
    for thing in result.things():
        word = CHANGES.get(base.kind_of(thing))
        if word is not None and word_worth(result, thing) != word_worth(base, thing):
            worths[word, thing] = word_worth(result, thing)
    return worths


def details_of(program, content):
    """The tuple of the pairs (thing, worth) of the declarations, uses and numerals of a content."""
    details = []
    for word, thing in things_of(content):
        if word != "block":
            details.append((thing, word_worth(program, thing)))
    return tuple(details)


def word_worth(program, thing):
    """The name, meaning or value of a thing."""
    kind = program.kind_of(thing)
    if kind == "declaration":
        return program.name_of(thing)
    if kind == "use":
        return program.meaning(thing)
    return program.value_of(thing)


def joined_versions(one, other):
    """The versions of two lists, those with equal worths as one, by their least person."""
    versions = list(one)
    flats = [flat_worth(worth) for worth, _ in one]
    for worth, people in other:
        if flat_worth(worth) in flats:
            at = flats.index(flat_worth(worth))
            _, others = versions[at]
            versions[at] = (worth, tuple(sorted([*others, *people])))
        else:
            versions.append((worth, people))
    return sorted(versions, key=lambda version: version[1][0])


def flat_versions(versions):
    """What tells versions from all others, without tuples as deep as expressions."""
    return [(flat_worth(worth), people) for worth, people in versions]


def flat_worth(worth):
    """What tells a worth from all others of its attribute."""
    # Only a new row has so many items; its content may be as deep as a long sum.
    if isinstance(worth, tuple) and len(worth) == 4:
        block, position, content, details = worth
        return (block, position, flat_content(content), details)
    return worth
