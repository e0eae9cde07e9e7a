"""Nets that are joined to programs."""

from piercednames.contents import blocks_of, things_of
from piercednames.errors import InvalidName, Unsound
from piercednames.layout import Layout
from piercednames.nets import Net
from piercednames.programs import Program
from piercednames.words import is_name


class Junction:
    """What a program and a net without argued attributes give together.

    placed: the dict from the rows that are not gone, there or not, to (block, position, content).
    named, meant and told: the dicts from the declarations, uses and numerals of these rows and
    others to names, meanings and values. placed_anew: the dict of True for the rows that are not
    gone and have a new or place entry.
    """

    def __init__(self, program, net):
        self._root, self.placed, self.named, self.meant, self.told = program.state()
        self.placed_anew = {}
        # This raises Argued for the least argued attribute.
        entries = {attribute: net.worth_of(attribute) for attribute in net.attributes()}
        # A new row must be known ahead of all that changes it or makes it go.
        for word, thing in entries:
            if word == "new" and thing not in self.placed:
                self._add_row(thing, entries[word, thing])
        for word, thing in entries:
            if word != "new":
                self._change(word, thing, entries[word, thing])
        for word, thing in entries:
            if word == "gone":
                self.placed.pop(thing, None)
                self.placed_anew.pop(thing, None)

    def _add_row(self, row, worth):
        block, position, content, details = worth
        self.placed[row] = (block, position, content)
        self.placed_anew[row] = True
        worths = {thing: told for thing, told in details}
        for kind, thing in things_of(content):
            if kind == "declaration":
                self.named[thing] = worths[thing]
            elif kind == "use":
                self.meant[thing] = worths[thing]
            elif kind == "number":
                self.told[thing] = worths[thing]

    def _change(self, word, thing, worth):
        """Takes an entry about a thing; names, meanings and values of unknown things do not matter."""
        if word == "place" and thing in self.placed:
            _, _, content = self.placed[thing]
            self.placed[thing] = (*worth, content)
            self.placed_anew[thing] = True
        elif word == "name":
            self.named[thing] = worth
        elif word == "means":
            self.meant[thing] = worth
        elif word == "value":
            self.told[thing] = worth

    def rows_there(self):
        """The dict of the rows that are there to (block, position, content)."""
        inner = {}
        for row in self.placed:
            inner.setdefault(self.placed[row][0], []).append(row)
        there = {}
        waiting = [self._root]
        while waiting:
            block = waiting.pop()
            for row in inner.get(block, []):
                there[row] = self.placed[row]
                waiting.extend(blocks_of(self.placed[row][2]))
        return there

    def faults(self):
        """The list of the faults of structure."""
        rings = self._rings()
        if rings:
            return [("ring", rows) for rows in rings]
        there = self.rows_there()
        faults = [("beneath", row) for row in sorted(self.placed_anew) if row not in there]
        layout = Layout(self._root, there)
        for use in layout.of_kind("use"):
            meaning = self.meant[use]
            if layout.kinds.get(meaning) != "declaration":
                faults.append(("lost", use))
            elif not layout.reaches(layout.homes[use], meaning):
                faults.append(("reach", use))
        return faults

    def _rings(self):
        """The list of the rings of rows, each one ascending, in the order of their least rows."""
        hosts = {}
        for row in self.placed:
            for block in blocks_of(self.placed[row][2]):
                hosts[block] = row
        rings = []
        seen = {}
        for start in self.placed:
            trail = []
            row = start
            while row is not None and row not in seen:
                seen[row] = True
                trail.append(row)
                row = hosts.get(self.placed[row][0])
            if row in trail:
                rings.append(tuple(sorted(trail[trail.index(row):])))
        return sorted(rings)

    def whole(self):
        """The joined program; there must be no faults of structure."""
        return Program(self._root, self.rows_there(), self.named, self.meant, self.told)


def structure_faults(program, net):
    """The list of the faults of structure of a program joined with a net."""
    return Junction(program, net).faults()


def joined(program, net):
    """The joined program."""
    junction = Junction(program, net)
    faults = junction.faults()
    if faults:
        raise Unsound(faults[0])
    return junction.whole()


def net_back(program, net, person):
    """The net between the joined program and the program."""
    if not is_name(person):
        raise InvalidName(person)
    return Net.between(joined(program, net), program, person)
