import unittest

from piercednames.carried import WideTable
from piercednames.changes import changes, exposed, exposing, noticed, witness
from piercednames.errors import BadText, UnknownName
from piercednames.libraries import Stack
from piercednames.parting import parting
from piercednames.runs import Run
from piercednames.texts import scan_text
from tests.reference_names import Facts
from tests.samples import odd_values
from tests.stacks import random_client, random_stack
from tests.test_libraries import library
from tests.test_nets import net_of
from tests.test_steps import at, told

ONE = "let x = 1\ndef p(a, b) {\nout a + x\n}\n"


def three_stacks():
    base, lib = library("base", ONE), library("lib", "let y = 2\n")
    return Stack(base, lib), base, lib


class ChangesTest(unittest.TestCase):
    def check(self, stack, other, names):
        told = changes(stack, other)
        self.assertEqual(told, [(name, stack.sees(name), other.sees(name)) for name in names])
        client = witness(stack, other)
        if not names:
            self.assertIsNone(client)
            return
        self.assertEqual(len(stack.stacked(client)) - len(stack.stacked("")), 1)
        self.assertEqual(noticed(stack, other, client), 0)

    def test_libraries_that_are_left_out_new_or_in_another_order(self):
        stack, base, lib = three_stacks()
        self.check(stack, Stack(base), ["y"])
        self.check(stack, Stack(lib), ["p", "x"])
        self.check(stack, Stack(), ["p", "x", "y"])
        self.check(stack, Stack(lib, base), [])
        self.check(stack, stack + library("top", "let z = 1\n"), [])
        self.check(stack, stack + library("top", "let x = 1\ndef y() {\n}\n"), ["x", "y"])
        self.check(Stack(), stack, [])
        self.check(stack, stack, [])
        self.check(stack, Stack(library("other", ONE), lib), ["p", "x"])
        wider = stack + library("top", "let x = 1\n")
        self.check(wider, Stack(wider.libraries()[2], base, lib), ["x"])
        self.assertEqual(changes(wider, stack), [("x", ("top", at(2), -1), ("base", at(2), -1))])
        self.assertEqual(changes(stack, Stack(base)), [("y", ("lib", at(2), -1), None)])

    def test_editions(self):
        stack, base, lib = three_stacks()
        renamed = base.edition(net_of(base.program, "ann", ("rename", at(2), "k")))
        self.check(stack, stack + renamed, ["x"])
        self.check(stack + renamed, stack, ["k"])
        # What is behind a name may change as it likes.
        inside = base.edition(net_of(base.program, "ann", ("value", base.program.numerals()[0], 7)))
        self.check(stack, stack + inside, [])
        put_back = renamed.edition(net_of(renamed.program, "bob", ("rename", at(2), "x")))
        self.check(stack, stack + put_back, [])
        self.assertEqual(stack + put_back, stack)

    def test_random_stacks(self):
        """Point 37: what clients notice, and the changed names."""
        seen = {True: 0, False: 0}
        for seed in range(60):
            stack = random_stack(seed)
            others = [random_stack(seed + 1), Stack(*stack.libraries()[::-1]), Stack(*stack.libraries()[1:]), stack]
            for other in others:
                names = sorted(name for name in stack.seen() if stack.sees(name) != other.sees(name))
                self.assertEqual([name for name, _, _ in changes(stack, other)], names)
                self.assertEqual(witness(stack, other) is None, not names)
                if names:
                    client = witness(stack, other)
                    self.assertEqual(noticed(stack, other, client), 0)
                    self.assertEqual(len(client.split("\n")), 2)
                for k in range(3):
                    client = random_client(stack, seed * 10 + k)
                    meanings = stack.meanings(client)
                    uses = scan_text(client, seen={name: many for name, (_, _, many) in stack.seen().items()})
                    wanted = [at for at, (name, own) in enumerate(uses) if not own and name in names]
                    self.assertEqual(noticed(stack, other, client), wanted[0] if wanted else None)
                    try:
                        self.assertEqual(other.meanings(client) != meanings, bool(wanted))
                    except BadText:
                        self.assertTrue(wanted)
                    seen[bool(wanted)] += 1
        self.assertGreater(min(seen.values()), 60)


class NoticedTest(unittest.TestCase):
    def test_the_first_use(self):
        stack, base, lib = three_stacks()
        other = Stack(base)
        for client, index in (
            ("out y", 0), ("out x + y", 1), ("let y = 1\nout y", None), ("out x\nblock {\nlet y = 1\nout y\n}\nset y = y", 2),
            ("", None), ("do p(1, y)", 1), ("let y = y", None), ("out x", None),
        ):
            self.assertEqual(noticed(stack, other, client), index, client)

    def test_clients_that_cannot_be_read(self):
        stack, base, lib = three_stacks()
        for client, bears in (("out z", (0, 4, "unknown")), ("do y()", (0, 3, "kind")), ("{", (0, 0, "form"))):
            for other in (stack, Stack()):
                with self.assertRaises(BadText) as caught:
                    noticed(stack, other, client)
                self.assertEqual(told(caught.exception), ("BadText", *bears))
        for value in odd_values():
            if not isinstance(value, str):
                with self.assertRaises(BadText):
                    noticed(stack, Stack(), value)
        # It need not be readable in the other one.
        self.assertEqual(noticed(stack, Stack(), "out y"), 0)


class ExposedTest(unittest.TestCase):
    def check(self, stack, names):
        self.assertEqual(exposed(stack), names)
        for name in names:
            client = exposing(stack, name)
            self.caught(stack, name, client)
        for value in [*odd_values(), "zz", *[name for name in stack.seen() if name not in names]]:
            with self.assertRaises(UnknownName) as raised:
                exposing(stack, value)
            self.assertEqual(raised.exception.name, value)

    def caught(self, stack, name, client):
        program = stack.stacked(client)
        block = program.root
        for _ in stack.libraries():
            block = program.content(program.rows_of(block)[-1])[1]
        rows = program.rows_of(block)
        own = [thing for thing in program.declarations() if program.block_of(thing) == block]
        self.assertEqual((len(rows), [program.name_of(thing) for thing in own]), (2, [name]))
        self.assertEqual(program.row_of(own[0]), rows[0])
        choices = parting(program, by="callers")
        run = Run(program, by="callers", choices=choices)
        run.run(1000)
        self.assertIsNotNone(run.untrue())

    def test_procedures_that_want(self):
        self.check(Stack(library("base", ONE)), ["x"])
        self.check(Stack(library("base", "let x = 1\nlet y = 2\ndef p() {\nout 1\n}\n")), [])
        self.check(Stack(library("base", "let x = 1\ndef p() {\ndo q(1)\n}\ndef q(a) {\nset x = a\n}\n")), ["q", "x"])
        # A procedure that calls itself wants itself, which is no other name.
        self.check(Stack(library("base", "def p() {\ndo p()\n}\n")), [])
        self.check(Stack(library("base", "def p() {\ndo p()\n}\ndef q() {\ndo p()\n}\n")), ["p"])
        # What is within the procedure is its own.
        self.check(Stack(library("base", "def p(a) {\nlet y = a\ndef r() {\nout y\n}\ndo r()\n}\n")), [])
        # Dead rows count, too.
        self.check(Stack(library("base", "let x = 1\ndef p() {\nif 0 {\nout x\n}\n}\n")), ["x"])

    def test_only_what_is_seen(self):
        base, lib = library("base", ONE), library("lib", "let p = 1\n")
        self.check(Stack(base, lib), [])
        self.check(Stack(lib, base), ["x"])
        # The name itself need not be seen.
        self.check(Stack(base, library("lib", "def x() {\n}\n")), ["x"])
        self.check(Stack(), [])

    def test_random_stacks(self):
        seen = 0
        for seed in range(60):
            stack = random_stack(seed)
            names = set()
            for name, (item, declaration, many) in stack.seen().items():
                program = {known.name: known.program for known in stack.libraries()}[item]
                facts = Facts(program)
                if many >= 0:
                    wanted = [thing for thing in facts.declarations if declaration in facts.wanting(thing)]
                    names |= {facts.names[thing] for thing in wanted} - {name}
            self.assertEqual(exposed(stack), sorted(names))
            seen += len(names)
            for name in sorted(names):
                self.caught(stack, name, exposing(stack, name))
        self.assertGreater(seen, 20)

    def test_what_meets_is_exposed_or_used(self):
        """Point 38: declarations of a library and a client with one name and wide stretches that meet."""
        met = 0
        for seed in range(300):
            stack = random_stack(seed // 2)
            client = random_client(stack, seed)
            program = stack.stacked(client)
            block = program.root
            for _ in stack.libraries():
                block = program.content(program.rows_of(block)[-1])[1]
            within = [thing for thing in program.declarations() if block in program.path(program.block_of(thing))]
            for one, other in WideTable(program).clashing():
                if (one in within) != (other in within):
                    met += 1
                    outer = other if one in within else one
                    used = [use for use in program.uses_of(outer) if block in program.path(program.block_of(use))]
                    self.assertTrue(program.name_of(outer) in exposed(stack) or used)
        self.assertGreater(met, 4)


if __name__ == "__main__":
    unittest.main()
