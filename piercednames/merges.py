"""Merges: the nets of several people on one program, in which they may be settled."""

from piercednames.errors import UnknownAttribute
from piercednames.heals import heal
from piercednames.joining import joined, structure_faults
from piercednames.meaning import faults
from piercednames.nets import Net
from piercednames.stretches import Table


class Merge:
    """A program and the sum of nets, in which argued attributes can be settled."""

    def __init__(self, base, *nets):
        self._base = base
        self._whole = Net.none()
        # The settled attributes, each with a person whose version it has.
        self._settled = {}
        for net in nets:
            self._whole = self._whole + net

    @property
    def base(self):
        """The program to which the nets are joined."""
        return self._base

    def add_net(self, net):
        """Adds a net; drops the settlements of the attributes to which it brings a new worth."""
        before = self._whole
        self._whole = before + net
        for attribute in list(self._settled):
            if len(self._whole.versions(attribute)) > len(before.versions(attribute)):
                del self._settled[attribute]

    def settle(self, attribute, person):
        """Gives an attribute the worth of the version of a person."""
        self._whole.version_of(attribute, person)
        self._settled[attribute] = person

    def unsettle(self, attribute):
        """Drops a settlement."""
        if attribute not in self._whole or attribute not in self._settled:
            raise UnknownAttribute(attribute)
        del self._settled[attribute]

    def settled(self):
        """The dict from the settled attributes, ascending, to their worths."""
        chosen = self._chosen()
        return {attribute: chosen[attribute][0] for attribute in sorted(chosen)}

    def whole_net(self):
        """The sum of all nets."""
        return self._whole

    def net(self):
        """The sum, in which each settled attribute has only the version with its worth."""
        return self._whole.settled_by(self._chosen())

    def _chosen(self):
        """The dict from the settled attributes to their versions."""
        whole = self._whole
        return {attribute: whole.version_of(attribute, self._settled[attribute]) for attribute in self._settled}

    def people(self):
        """The ascending list of the people."""
        return self._whole.people()

    def argued(self):
        """The ascending list of the attributes that are argued and not settled."""
        return self.net().argued()

    def faults(self):
        """The list of the faults of structure."""
        return structure_faults(self._base, self.net())

    def result(self):
        """The joined program."""
        return joined(self._base, self.net())

    def name_faults(self):
        """The list of the faults of names of the joined program."""
        return faults(self.result())

    def is_right(self):
        """Whether nothing is argued and there are no faults of structure or of names."""
        if self.argued() or self.faults():
            return False
        return len(self.name_faults()) == 0

    def heal(self, *, worths=None, held=(), avoid=()):
        """The plan of a heal of the table of all declarations of the result."""
        return heal(Table(self.result()), worths=worths, held=held, avoid=avoid)

    def twin(self):
        """An independent merge in the same state."""
        other = Merge(self._base, self._whole)
        other._settled = {attribute: self._settled[attribute] for attribute in self._settled}
        return other

    def __repr__(self):
        return f"Merge({len(self._whole.people())} people)"
