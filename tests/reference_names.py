"""What the document says of names, stretches, calls and namings, said a second time in another way.

All of it is worked out from the state of a program and the order of tests/reference.py.
"""

import itertools

from tests import reference


class Facts:
    """The plain facts of a program, as sets and dicts."""

    def __init__(self, program):
        state = program.state()
        self.root, self.rows, self.names, self.meanings, _ = state
        listed = reference.order(state)
        self.things = [thing for _, thing, _, _ in listed]
        self.kinds = {thing: kind for kind, thing, _, _ in listed}
        self.homes = {thing: block for _, thing, block, _ in listed}
        self.hosts = {thing: row for _, thing, _, row in listed}
        self.blocks = self.of_kind("block")
        self.declarations = self.of_kind("declaration")
        self.uses = self.of_kind("use")
        self.rank = {thing: at for at, thing in enumerate(self.things)}

    def of_kind(self, kind):
        return [thing for thing in self.things if self.kinds[thing] == kind]

    def above(self, block):
        """The set of a block and all blocks above it."""
        return set() if block is None else {block} | self.above(self.homes[block])

    def depth(self, block):
        return len(self.above(block)) - 1

    def sorted(self, things):
        return sorted(things, key=lambda thing: self.rank[thing])

    # Names.

    def declared(self, block, name):
        """The declarations of a block with a name, in reading order."""
        return [d for d in self.declarations if self.homes[d] == block and self.names[d] == name]

    def found(self, use):
        name = self.names[self.meanings[use]]
        deepest = [block for block in self.above(self.homes[use]) if self.declared(block, name)]
        return self.declared(max(deepest, key=self.depth), name)[0]

    def faults(self):
        doubled = []
        for d in self.declarations:
            first = self.declared(self.homes[d], self.names[d])[0]
            if first != d:
                doubled.append(("doubled", first, d, self.homes[d]))
        caught = []
        for use in self.uses:
            if self.found(use) != self.meanings[use]:
                caught.append(("caught", use, self.meanings[use], self.found(use), self.homes[self.found(use)]))
        return doubled + caught

    # Stretches.

    def between(self, low, top):
        """The blocks from a block up to another one."""
        return {block for block in self.above(low) if top in self.above(block)}

    def stretch(self, d):
        found = {self.homes[d]}
        for use in self.uses:
            if self.meanings[use] == d:
                found |= self.between(self.homes[use], self.homes[d])
        return found

    def stretches(self):
        return {d: self.stretch(d) for d in self.declarations}

    # Calls.

    def region(self, block):
        if block == self.root:
            return None
        content = self.rows[self.hosts[block]][2]
        return content[1] if content[0] == "def" else self.region(self.homes[block])

    def calls(self):
        """The triples of a do row, the procedure in whose region it stands, and the called one."""
        found = []
        for row, (block, _, content) in self.rows.items():
            if content[0] == "do":
                found.append((row, self.region(block), self.meanings[content[1]]))
        return found

    def procedures(self):
        return [content[1] for _, _, content in self.rows.values() if content[0] == "def"]

    def body(self, procedure):
        return self.rows[self.hosts[procedure]][2][3]

    def alive_regions(self):
        return self.closed({None}, lambda alive: {called for _, caller, called in self.calls() if caller in alive})

    def closed(self, found, step):
        while not step(found) <= found:
            found = found | step(found)
        return found

    def alive(self):
        regions = self.alive_regions()
        return [block for block in self.blocks if self.region(block) in regions]

    def wanting(self, d):
        """The procedures that want a declaration."""
        outer = {p for p in self.procedures() if self.body(p) not in self.above(self.homes[d])}
        own = {self.region(self.homes[use]) for use in self.uses if self.meanings[use] == d} & outer
        return self.closed(own, lambda wanting: {a for _, a, b in self.calls() if b in wanting} & outer)

    def wide_stretches(self):
        alive = set(self.alive())
        found = {}
        for d in self.declarations:
            if self.homes[d] in alive:
                wanting = self.wanting(d)
                ends = {self.homes[use] for use in self.uses if self.meanings[use] == d}
                ends |= {self.rows[row][0] for row, _, called in self.calls() if called in wanting}
                found[d] = {self.homes[d]}
                for end in ends & alive:
                    found[d] |= self.between(end, self.homes[d])
        return found

    # Namings.

    def top_order(self, stretches):
        return sorted(stretches, key=lambda d: (self.depth(self.homes[d]), self.rank[d]))


def met(stretches):
    """The set of the pairs of different declarations whose stretches meet, each pair both ways round."""
    return {(a, b) for a in stretches for b in stretches if a != b and stretches[a] & stretches[b]}


def namings(order, pairs, names, kept):
    """All namings that are apart, in the order of their numbers."""
    found = [{}]
    for d in order:
        longer = []
        for naming in found:
            taken = {naming[other] for other in naming if (d, other) in pairs}
            free = [kept[d]] if d in kept else names
            longer += [{**naming, d: name} for name in free if name not in taken]
        found = longer
    return found


def apart(naming, pairs):
    return all(naming[a] != naming[b] for a, b in pairs)


def all_namings(stretches, names):
    """All namings, right or wrong."""
    for chosen in itertools.product(names, repeat=len(stretches)):
        yield dict(zip(stretches, chosen))
