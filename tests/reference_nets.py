"""Nets and what they are joined to, said a second time in another way: by all facts of a program, and by recursion."""

from tests import reference
from tests.reference_names import Facts


def details(program, content):
    """The pairs of the declarations, uses and numerals of a content, and their worths."""
    _, _, names, meanings, values = program.state()
    found = []
    root = ("none", 0)
    # A program of this row alone tells the order of its things.
    for kind, thing, _, row in reference.order((root, {("none", 1): (root, (1, 1), content)})):
        if row == ("none", 1) and kind != "block":
            found.append((thing, {"declaration": names, "use": meanings, "number": values}[kind][thing]))
    return tuple(found)


def between(base, result):
    """The dict of the entries of a net."""
    _, old_rows, old_names, old_meanings, old_values = base.state()
    _, rows, names, meanings, values = result.state()
    blocks = Facts(result).blocks
    entries = {}
    for row in set(old_rows) | set(rows):
        if row not in old_rows:
            entries["new", row] = (*rows[row], details(result, rows[row][2]))
        elif row not in rows:
            if old_rows[row][0] in blocks:
                entries["gone", row] = True
        elif rows[row][:2] != old_rows[row][:2]:
            entries["place", row] = rows[row][:2]
    for word, old, new in (("name", old_names, names), ("means", old_meanings, meanings), ("value", old_values, values)):
        for thing in set(old) & set(new):
            if old[thing] != new[thing]:
                entries[word, thing] = new[thing]
    return dict(sorted(entries.items(), key=lambda pair: pair[0]))


def summed(*nets):
    """The versions of the sum of (entries, person): a dict from attributes to lists of (worth, people)."""
    versions = {}
    for entries, person in nets:
        for attribute, worth in entries.items():
            listed = versions.setdefault(attribute, [])
            for known, people in listed:
                if known == worth:
                    people.append(person)
                    break
            else:
                listed.append((worth, [person]))
    return {
        attribute: sorted([(worth, tuple(sorted(people))) for worth, people in listed], key=lambda pair: min(pair[1]))
        for attribute, listed in sorted(versions.items(), key=lambda pair: pair[0])
    }


class Join:
    """What a program joined with the entries of a net without argued attributes is."""

    def __init__(self, program, entries):
        self.root, old_rows, self.names, self.meanings, self.values = program.state()
        self.content = {row: content for row, (_, _, content) in old_rows.items()}
        self.spot = {row: (block, position) for row, (block, position, _) in old_rows.items()}
        self.asked = []
        for (word, row), worth in entries.items():
            if word == "new" and row not in old_rows:
                block, position, self.content[row], told = worth
                self.spot[row] = (block, position)
                self.asked.append(row)
                for thing, own in told:
                    {str: self.names, tuple: self.meanings, int: self.values}[type(own)][thing] = own
        for (word, thing), worth in entries.items():
            if word == "place" and thing in self.spot:
                self.spot[thing] = worth
                self.asked.append(thing)
            for known, table in (("name", self.names), ("means", self.meanings), ("value", self.values)):
                if word == known and thing in table:
                    table[thing] = worth
        self.gone = [thing for word, thing in entries if word == "gone"]
        self.left = [row for row in self.spot if row not in self.gone]
        self.inner = {row: self.blocks(row) for row in self.left}
        self.hosts = {row: [host for host in self.left if self.spot[row][0] in self.inner[host]] for row in self.left}

    def blocks(self, row):
        state = ("none", {row: ("none", (1, 1), self.content[row])})
        return [thing for kind, thing, _, host in reference.order(state) if kind == "block" and host == row]

    def above(self, row):
        """The row in a block of which a row stands, None without one."""
        return self.hosts[row][0] if self.hosts[row] else None

    def rings(self):
        found = set()
        for row in self.left:
            trail = [row]
            while len(trail) <= len(self.left) and trail[-1] is not None:
                trail.append(self.above(trail[-1]))
                if trail[-1] == row:
                    found.add(tuple(sorted(set(trail))))
                    break
        return sorted(found)

    def is_there(self, row):
        if row is None or row in self.gone:
            return False
        return self.spot[row][0] == self.root or self.is_there(self.above(row))

    def faults(self):
        rings = self.rings()
        if rings:
            return [("ring", rows) for rows in rings]
        faults = [("beneath", row) for row in sorted(set(self.asked)) if row not in self.gone and not self.is_there(row)]
        listed = reference.order((self.root, self.rows()))
        homes = {thing: block for _, thing, block, _ in listed}
        for kind, use, block, _ in listed:
            if kind == "use":
                meaning = self.meanings[use]
                if meaning not in homes:
                    faults.append(("lost", use))
                    continue
                while block is not None and block != homes[meaning]:
                    block = homes[block]
                if block is None:
                    faults.append(("reach", use))
        return faults

    def rows(self):
        return {row: (*self.spot[row], self.content[row]) for row in self.left if self.is_there(row)}

    def state(self):
        kinds = {}
        rows = self.rows()
        for kind, thing, _, _ in reference.order((self.root, rows)):
            kinds.setdefault(kind, []).append(thing)
        return (
            self.root,
            {row: rows[row] for row in kinds.get("row", [])},
            {thing: self.names[thing] for thing in kinds.get("declaration", [])},
            {thing: self.meanings[thing] for thing in kinds.get("use", [])},
            {thing: self.values[thing] for thing in kinds.get("number", [])},
        )
