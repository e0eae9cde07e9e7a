"""Edits, said a second time in another way: on lists of rows, with fractions as positions.

What an edit does is worked out ahead of what is wrong with it; the errors are looked for afterwards.
"""

from fractions import Fraction

from tests import reference
from tests.reference_names import Facts


class Refused(Exception):
    """The code of an error and what it bears."""


def edited(program, edit, person, start):
    """The state after an edit and the next number, or Refused."""
    return Editing(program, person, start).done(edit)


def as_pair(fraction):
    return (fraction.numerator, fraction.denominator)


class Editing:
    def __init__(self, program, person, start):
        self.facts = Facts(program)
        self.root, rows, self.names, self.meanings, self.values = program.state()
        self.contents = {row: content for row, (_, _, content) in rows.items()}
        self.places = {row: Fraction(*position) for row, (_, position, _) in rows.items()}
        self.kids = {block: reference.rows_in(program.state(), block) for block in self.facts.blocks}
        self.homes = {row: block for row, (block, _, _) in rows.items()}
        self.person, self.number = person, start

    def fresh(self):
        self.number += 1
        return (self.person, self.number - 1)

    # What there is.

    def known(self, thing, kind):
        if self.facts.kinds.get(thing) != kind:
            raise Refused("UnknownId", thing)

    def inside(self, row):
        """All things of a row, and all within it."""
        found = [row]
        for kind, thing in self.plain_things(self.contents[row]):
            found.append(thing)
            if kind == "block":
                for child in self.kids[thing]:
                    found += self.inside(child)
        return found

    def plain_things(self, content):
        word = content[0]
        if word == "let":
            return [("declaration", content[1])] + self.leaves(content[2])
        if word == "set":
            return [("use", content[1])] + self.leaves(content[2])
        if word == "read":
            return [("use", content[1])]
        if word == "out":
            return self.leaves(content[1])
        if word == "do":
            return [("use", content[1])] + [leaf for argument in content[2] for leaf in self.leaves(argument)]
        if word == "def":
            return [("declaration", content[1]), ("block", content[3])] + [("declaration", p) for p in content[2]]
        if word == "block":
            return [("block", content[1])]
        return self.leaves(content[1]) + [("block", block) for block in content[2:]]

    def leaves(self, expression):
        listed = []
        reference.leaves(expression, None, None, listed)
        return [(kind, thing) for kind, thing, _, _ in listed]

    # The state.

    def state(self):
        rows = {}
        for block in self.kids:
            for row in self.kids[block]:
                rows[row] = (block, as_pair(self.places[row]), self.contents[row])
        return (self.root, rows, self.names, self.meanings, self.values)

    def finished(self):
        """The state with just what it has, as a program tells it."""
        root, rows, names, meanings, values = self.state()
        kinds = {}
        for kind, thing, _, _ in reference.order((root, rows)):
            kinds.setdefault(kind, []).append(thing)
        return (
            root,
            {row: rows[row] for row in kinds.get("row", [])},
            {thing: names[thing] for thing in kinds.get("declaration", [])},
            {thing: meanings[thing] for thing in kinds.get("use", [])},
            {thing: values[thing] for thing in kinds.get("number", [])},
        )

    def out_of_reach(self, uses):
        """The uses whose meaning is not in reach now."""
        root, rows, *_ = self.state()
        homes = {thing: block for _, thing, block, _ in reference.order((root, rows))}
        found = []
        for use in uses:
            block = homes[use]
            while block is not None and block != homes[self.meanings[use]]:
                block = homes[block]
            if block is None:
                found.append(use)
        return found

    def check_reach(self, uses):
        for use in self.out_of_reach(uses):
            raise Refused("OutOfReach", use)

    def many(self, thing):
        """How many arguments or parameters a use or declaration has, -1 for a variable."""
        for content in self.contents.values():
            if content[0] in ("do", "def") and content[1] == thing:
                return len(content[2])
        return -1

    def check_fit(self, uses):
        for use in uses:
            if self.many(use) != self.many(self.meanings[use]):
                raise Refused("Misused", use)

    # Places.

    def between(self, ahead, follower):
        """The place of a row between two others, None without room."""
        one = None if ahead is None else self.places[ahead]
        other = None if follower is None else self.places[follower]
        if one is None and other is None:
            return Fraction(1)
        if one is None:
            return other / 2
        if other is None:
            return one + 1
        return None if one == other else (one + other) / 2

    def insert(self, row, block, after):
        """Puts a row into the list of a block; returns whether there was room."""
        rows = self.kids[block]
        at = 0 if after is None else rows.index(after) + 1
        place = self.between(rows[at - 1] if at else None, rows[at] if at < len(rows) else None)
        rows.insert(at, row)
        self.places[row] = place if place is not None else Fraction(1)
        self.homes[row] = block
        return place is not None

    def number_places(self, block):
        for index, row in enumerate(self.kids[block]):
            self.places[row] = Fraction(index + 1)
            self.homes[row] = block

    def is_crowded(self, row, leaving):
        """Whether a row that stays has the place of this one."""
        rows = self.kids[self.homes[row]]
        return any(self.places[other] == self.places[row] for other in rows if other not in leaving)

    # Edits.

    def done(self, edit):
        word, thing, *rest = edit
        getattr(self, "do_" + word)(thing, *rest)
        return self.finished(), self.number

    def do_rename(self, thing, name):
        self.known(thing, "declaration")
        self.names[thing] = name

    def do_value(self, thing, value):
        self.known(thing, "number")
        self.values[thing] = value

    def do_turn(self, use, thing):
        self.known(use, "use")
        self.known(thing, "declaration")
        self.meanings[use] = thing
        self.check_fit([use])
        self.check_reach([use])

    def do_drop(self, row):
        self.known(row, "row")
        inside = self.inside(row)
        for use in self.facts.uses:
            if use not in inside and self.meanings[use] in inside:
                raise Refused("Lost", use)
        self.kids[self.homes[row]].remove(row)

    def check_after(self, after, block, moved=None):
        if after is not None and (after == moved or after not in self.kids[block]):
            raise Refused("UnknownId", after)

    def do_move(self, row, block, after):
        self.known(row, "row")
        self.known(block, "block")
        self.check_after(after, block, row)
        if block in self.inside(row):
            raise Refused("Ring", row)
        self.kids[self.homes[row]].remove(row)
        fine = self.insert(row, block, after)
        self.check_reach(self.facts.uses)
        if not fine:
            raise Refused("NoRoom", after)

    def do_put(self, block, after, sketch):
        self.known(block, "block")
        self.check_after(after, block)
        row = self.fresh()
        own = []
        uses = []
        self.contents[row] = self.sketched(sketch, own, uses)
        for use in uses:
            if self.meanings[use] not in own:
                self.known(self.meanings[use], "declaration")
        fine = self.insert(row, block, after)
        self.check_fit(uses)
        self.check_reach(uses)
        if not fine:
            raise Refused("NoRoom", after)

    def sketched(self, sketch, own, uses):
        word, *items = sketch

        def declare(name):
            thing = self.fresh()
            self.names[thing] = name
            own.append(thing)
            return thing

        def use(meaning):
            thing = self.fresh()
            self.meanings[thing] = meaning
            uses.append(thing)
            return thing

        def block():
            thing = self.fresh()
            self.kids[thing] = []
            return thing

        def expression(told):
            if isinstance(told, int):
                thing = self.fresh()
                self.values[thing] = told
                return ("number", thing)
            if told[0] == "use":
                return ("use", use(told[1]))
            left = expression(told[1])
            return (told[0], left, expression(told[2]))

        if word == "let":
            thing = declare(items[0])
            return (word, thing, expression(items[1]))
        if word == "set":
            thing = use(items[0])
            return (word, thing, expression(items[1]))
        if word == "read":
            return (word, use(items[0]))
        if word == "out":
            return (word, expression(items[0]))
        if word == "do":
            thing = use(items[0])
            return (word, thing, tuple(expression(told) for told in items[1]))
        if word == "def":
            thing = declare(items[0])
            body = block()
            return (word, thing, tuple(declare(name) for name in items[1]), body)
        if word == "block":
            return (word, block())
        told = expression(items[0])
        return (word, told, block(), block()) if word == "if" else (word, told, block())

    # Steps.

    def lifted(self, row, many):
        self.known(row, "row")
        rows = self.kids[self.homes[row]]
        at = rows.index(row)
        if len(rows) < at + many:
            raise Refused("InvalidNumber", many)
        return at, rows[at:at + many]

    def do_lift(self, row, many, name):
        at, lifted = self.lifted(row, many)
        block, place = self.homes[row], self.places[row]
        crowded = self.is_crowded(row, lifted)
        front = self.places[self.kids[block][0]] / 2
        definition, procedure, body, call, use = [self.fresh() for _ in range(5)]
        self.kids[block][at:at + many] = [call]
        self.kids[block].insert(0, definition)
        self.kids[body] = lifted
        self.number_places(body)
        self.places.update({call: place, definition: front})
        self.contents[definition] = ("def", procedure, (), body)
        self.contents[call] = ("do", use, ())
        self.names[procedure] = name
        self.meanings[use] = procedure
        self.check_reach(self.facts.uses)
        if crowded:
            raise Refused("NoRoom", row)

    def do_wrap(self, row, many):
        at, wrapped = self.lifted(row, many)
        crowded = self.is_crowded(row, wrapped)
        home, place = self.homes[row], self.places[row]
        host, block = self.fresh(), self.fresh()
        self.kids[home][at:at + many] = [host]
        self.kids[block] = wrapped
        self.number_places(block)
        self.places[host] = place
        self.contents[host] = ("block", block)
        self.check_reach(self.facts.uses)
        if crowded:
            raise Refused("NoRoom", row)

    def do_hoist(self, row, block):
        self.known(row, "row")
        self.known(block, "block")
        if self.contents[row][0] != "def":
            raise Refused("NotFit", row)
        if block not in self.facts.above(self.homes[row]) - {self.homes[row]}:
            raise Refused("NotAbove", block)
        self.kids[self.homes[row]].remove(row)
        self.insert(row, block, None)
        self.check_reach(self.facts.uses)

    def do_unwrap(self, row):
        self.known(row, "row")
        if self.contents[row][0] != "block":
            raise Refused("NotFit", row)
        inner = self.kids[self.contents[row][1]]
        home = self.homes[row]
        if inner and self.is_crowded(row, [row]):
            raise Refused("NoRoom", row)
        at = self.kids[home].index(row)
        behind = self.kids[home][at + 1:]
        self.kids[home][at:at + 1] = inner
        for index, moved in enumerate(inner):
            if index == 0:
                self.places[moved] = self.places[row]
            elif behind:
                self.places[moved] = (self.places[inner[index - 1]] + self.places[behind[0]]) / 2
            else:
                self.places[moved] = self.places[inner[index - 1]] + 1
        del self.kids[self.contents[row][1]]

    def do_inline(self, row):
        self.known(row, "row")
        if self.contents[row][0] != "do":
            raise Refused("NotFit", row)
        if self.is_crowded(row, [row]):
            raise Refused("NoRoom", row)
        _, use, arguments = self.contents[row]
        procedure = self.meanings[use]
        _, _, parameters, body = self.contents[self.facts.hosts[procedure]]
        old = list(self.kids[body])
        host, block = self.fresh(), self.fresh()
        new = {}
        rows = []
        for parameter, argument in zip(parameters, arguments):
            let, thing = self.fresh(), self.fresh()
            rows.append(let)
            self.contents[let] = ("let", thing, self.expression_copy(argument, {}))
            self.names[thing] = self.names[parameter]
            new[parameter] = thing
        # What is declared within the body must be known ahead of all copies.
        start = self.number
        for _ in range(2):
            self.number = start
            copies = [self.row_copy(child, new) for child in old]
        self.kids[block] = rows + copies
        self.number_places(block)
        home = self.homes[row]
        at = self.kids[home].index(row)
        self.kids[home][at] = host
        self.places[host] = self.places[row]
        self.contents[host] = ("block", block)

    def row_copy(self, row, new):
        """A copy of a row and of all within it; new is added to, and says what is meant in place of what."""
        content = self.contents[row]
        word = content[0]
        copy = self.fresh()

        def declare(thing):
            new[thing] = self.fresh()
            self.names[new[thing]] = self.names[thing]
            return new[thing]

        def use(thing):
            made = self.fresh()
            self.meanings[made] = new.get(self.meanings[thing], self.meanings[thing])
            return made

        def block(thing):
            made = self.fresh()
            self.kids[made] = [self.row_copy(child, new) for child in self.kids[thing]]
            self.number_places(made)
            return made

        def expression(told):
            return self.expression_copy(told, new)

        if word == "let":
            made = declare(content[1])
            made = (word, made, expression(content[2]))
        elif word == "set":
            made = use(content[1])
            made = (word, made, expression(content[2]))
        elif word == "read":
            made = (word, use(content[1]))
        elif word == "out":
            made = (word, expression(content[1]))
        elif word == "do":
            made = use(content[1])
            made = (word, made, tuple(expression(told) for told in content[2]))
        elif word == "def":
            made = declare(content[1])
            body = self.fresh()
            declared = tuple(declare(parameter) for parameter in content[2])
            self.kids[body] = [self.row_copy(child, new) for child in self.kids[content[3]]]
            self.number_places(body)
            made = (word, made, declared, body)
        elif word == "block":
            made = (word, block(content[1]))
        else:
            made = expression(content[1])
            made = (word, made, *[block(inner) for inner in content[2:]])
        self.contents[copy] = made
        return copy

    def expression_copy(self, told, new):
        if told[0] == "number":
            thing = self.fresh()
            self.values[thing] = self.values[told[1]]
            return ("number", thing)
        if told[0] == "use":
            thing = self.fresh()
            self.meanings[thing] = new.get(self.meanings[told[1]], self.meanings[told[1]])
            return ("use", thing)
        left = self.expression_copy(told[1], new)
        return (told[0], left, self.expression_copy(told[2], new))
