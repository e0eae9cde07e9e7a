import itertools
import unittest

from piercednames.errors import Argued, BadText, Caught, Doubled, DuplicateName, InvalidName, Unsound
from piercednames.joining import joined
from piercednames.libraries import Library, Stack
from piercednames.meaning import is_right
from piercednames.nets import Net
from piercednames.programs import alike
from piercednames.texts import read_text, scan_text
from piercednames.writing import program_text
from tests.samples import odd_values
from tests.stacks import random_client, random_stack, stacked_by_hand
from tests.test_nets import net_of
from tests.test_steps import at, told


def library(name, text):
    return Library(name, read_text(text))


BASE = "let x = 1\ndef show(a) {\nout a + x\n}\nblock {\nlet y = 2\n}\n"


class LibraryTest(unittest.TestCase):
    def test_what_it_exports(self):
        program = read_text(BASE)
        base = Library("base", program)
        self.assertEqual((base.name, base.program), ("base", program))
        self.assertIs(base.program, program)
        self.assertEqual(list(base.exports().items()), [("show", (at(5), 1)), ("x", (at(2), -1))])
        self.assertEqual((len(base), repr(base)), (2, "Library(base, 2 exports)"))
        empty = library("none", "")
        self.assertEqual((empty.exports(), len(empty), bool(empty), repr(empty)), ({}, 0, True, "Library(none, 0 exports)"))
        self.assertEqual(library("p", "def p() {\n}\n").exports(), {"p": (at(2), 0)})
        base.exports().clear()
        self.assertEqual(len(base.exports()), 2)

    def test_errors(self):
        wrong = read_text("let x = 1\nlet y = x\nblock {\nlet z = x\n}\n")
        x, y, z = wrong.declarations()
        doubled, caught = wrong.renamed({y: "x", z: "x"}), wrong.renamed({z: "x"})
        for value in odd_values():
            with self.assertRaises(InvalidName) as raised:
                Library(value, doubled)
            self.assertEqual(raised.exception.value, value)
        with self.assertRaises(Doubled) as raised:
            Library("base", doubled)
        self.assertEqual(told(raised.exception), ("Doubled", x, y, at(0)))
        with self.assertRaises(Caught) as raised:
            Library("base", caught)
        self.assertEqual(told(raised.exception), ("Caught", wrong.uses()[1], x, z, wrong.blocks()[1]))

    def test_editions(self):
        base = library("base", BASE)
        net = net_of(base.program, "ann", ("rename", at(2), "k"), ("put", at(0), None, ("let", "m", 1)))
        edition = base.edition(net)
        self.assertEqual((edition.name, edition.program), ("base", joined(base.program, net)))
        self.assertEqual(sorted(edition.exports()), ["k", "m", "show"])
        self.assertEqual(base, library("base", BASE))
        self.assertEqual(base.edition(Net.none()), base)
        inner = base.program.blocks()[1]
        with self.assertRaises(Doubled):
            base.edition(net_of(base.program, "ann", ("rename", at(2), "show")))
        with self.assertRaises(Caught):
            base.edition(net_of(base.program, "ann", ("put", inner, None, ("let", "x", 1))))
        one, other = [net_of(base.program, person, ("rename", at(2), name)) for person, name in (("ann", "k"), ("bob", "m"))]
        with self.assertRaises(Argued):
            base.edition(one + other)
        put = net_of(base.program, "bob", ("put", base.program.blocks()[2], None, ("block",)))
        with self.assertRaises(Unsound) as raised:
            base.edition(put + net_of(base.program, "ann", ("drop", base.program.rows_of(at(0))[2])))
        self.assertEqual(raised.exception.fault, ("beneath", ("bob", 1)))

    def test_equality(self):
        base = library("base", BASE)
        self.assertEqual(base, library("base", BASE))
        for other in (library("lib", BASE), library("base", BASE + "out x\n"), Stack(base), read_text(BASE), *odd_values()):
            self.assertNotEqual(base, other)
        self.assertNotEqual(base, Library("base", read_text(BASE, owner="ann")))


class StackTest(unittest.TestCase):
    def stack(self):
        return Stack(
            library("base", "let x = 1\ndef p(a, b) {\n}\ndef q() {\n}\n"), library("lib", "def x() {\n}\nlet z = 3\n"),
            library("top", "let q = 1\n"),
        )

    def test_what_it_sees(self):
        stack = self.stack()
        wanted = {"p": ("base", at(5), 2), "q": ("top", at(2), -1), "x": ("lib", at(2), 0), "z": ("lib", at(5), -1)}
        self.assertEqual(list(stack.seen().items()), list(wanted.items()))
        self.assertEqual({name: stack.sees(name) for name in wanted}, wanted)
        for value in [*odd_values(), "y", "base", ("x",), ["x"]]:
            self.assertIsNone(stack.sees(value))
        self.assertEqual([item.name for item in stack.libraries()], ["base", "lib", "top"])
        self.assertEqual((len(stack), repr(stack)), (3, "Stack(3 libraries)"))

    def test_names_of_libraries(self):
        stack = self.stack()
        self.assertEqual([name in stack for name in ("base", "lib", "top")], [True] * 3)
        for value in [*odd_values(), "x", "none", stack.libraries()[0], stack]:
            self.assertFalse(value in stack)
        one, two, three = stack.libraries()
        with self.assertRaises(DuplicateName) as raised:
            Stack(one, two, library("lib", ""), three, one)
        self.assertEqual(raised.exception.name, "lib")

    def test_a_stack_without_libraries(self):
        stack = Stack()
        self.assertEqual((stack.libraries(), stack.seen(), len(stack), bool(stack)), ([], {}, 0, True))
        self.assertEqual((repr(stack), stack == Stack(), stack.sees("x")), ("Stack(0 libraries)", True, None))
        self.assertEqual([stack.stacked_text(text) for text in ("", " ", "\n", "out 1")], ["", " \n", "\n", "out 1\n"])
        self.assertEqual((stack.meanings("let x = 1\nout x"), stack.stacked("")), ([None], read_text("")))

    def test_adding(self):
        stack = self.stack()
        new, lib = library("new", "let n = 1\n"), library("lib", "let z = 4\nlet k = 1\n")
        longer = stack + new
        self.assertEqual([item.name for item in longer.libraries()], ["base", "lib", "top", "new"])
        other = stack + lib
        self.assertEqual([item.name for item in other.libraries()], ["base", "lib", "top"])
        self.assertEqual((other.libraries()[1], other.sees("z"), other.sees("x")), (lib, ("lib", at(2), -1), ("base", at(2), -1)))
        self.assertEqual((stack, Stack() + new), (self.stack(), Stack(new)))
        self.assertEqual(other + stack.libraries()[1], stack)

    def test_equality(self):
        stack = self.stack()
        one, two, three = stack.libraries()
        self.assertEqual(stack, Stack(one, two, three))
        for other in (Stack(one, three, two), Stack(one, two), stack + library("lib", ""), Stack(), [one, two, three], *odd_values()):
            self.assertNotEqual(stack, other)

    def test_told_lists_that_are_changed(self):
        stack = self.stack()
        for listed in (stack.libraries(), stack.seen(), stack.meanings("out q\n")):
            listed.clear()
        self.assertEqual((len(stack.libraries()), len(stack.seen()), stack), (3, 4, self.stack()))


class ClientTest(unittest.TestCase):
    def test_meanings(self):
        stack = Stack(library("base", "let x = 1\ndef p(a) {\n}\n"), library("lib", "let y = 3\n"))
        x, p, y = ("base", at(2), -1), ("base", at(5), 1), ("lib", at(2), -1)
        client = "let y = x\nblock {\n let p = y\n out p\n}\ndo p(y + x)\nset x=1"
        self.assertEqual(stack.meanings(client), [x, None, None, p, None, x, x])
        self.assertEqual((stack.meanings(""), stack.meanings("  \n\n")), ([], []))

    def test_stacked_texts(self):
        stack = Stack(library("base", "let x=1\n"), library("lib", "out 2"))
        start = "let x = 1\nblock {\nout 2\nblock {\n"
        for client, middle in (
            ("", ""), ("out x", "out x\n"), ("out x\n", "out x\n"), ("\n\n", "\n\n"), ("out  x \n ", "out  x \n \n"),
            ("let x=x", "let x=x\n"),
        ):
            self.assertEqual(stack.stacked_text(client), start + middle + "}\n}\n")
            self.assertEqual(stack.stacked(client), read_text(start + middle + "}\n}\n"))
        self.assertEqual(Stack(library("e", "")).stacked_text(""), "block {\n}\n")

    def test_bad_texts(self):
        stack = Stack(library("base", "let x = 1\ndef p(a) {\n}\n"))
        for client, bears in (
            ("out y", (0, 4, "unknown")), ("out p", (0, 4, "kind")), ("do x()", (0, 3, "kind")), ("do p()", (0, 3, "kind")),
            ("}", (0, 0, "form")), ("block {\n", (1, 0, "end")), ("out x\n}\nblock {", (1, 0, "form")), ("let x = 1\nlet x = y", (1, 4, "twice")),
            ("out y\nlet let = 1", (1, 4, "form")), ("set p = y", (0, 4, "kind")), ("out 01", (0, 4, "number")),
            ("out abcdefg", (0, 4, "word")), ("out x;", (0, 5, "sign")), ("out a", (0, 4, "unknown")),
        ):
            for ask in (stack.meanings, stack.stacked_text, stack.stacked):
                with self.assertRaises(BadText) as raised:
                    ask(client)
                self.assertEqual(told(raised.exception), ("BadText", *bears))
        for value in odd_values():
            if not isinstance(value, str):
                for ask in (stack.meanings, stack.stacked_text, stack.stacked):
                    with self.assertRaises(BadText) as raised:
                        ask(value)
                    self.assertEqual(told(raised.exception), ("BadText", 0, 0, "form"))

    def test_random_clients(self):
        """Read as a text, a stacked text is right, and each use means what it should."""
        met = {True: 0, False: 0}
        for seed in range(120):
            stack = random_stack(seed)
            client = random_client(stack, seed)
            text = stack.stacked_text(client)
            program = stack.stacked(client)
            self.assertTrue(is_right(program))
            self.assertEqual(program, read_text(text))
            self.assertTrue(alike(program, stacked_by_hand(stack, client)))
            self.check(program, stack, client, met)
        self.assertGreater(min(met.values()), 60)

    def check(self, program, stack, client, met):
        """Compares the meanings of all uses with those in the libraries and in the client."""
        uses = program.uses()
        block = program.root
        known = {}
        for item in stack.libraries():
            own = item.program
            things = [thing for thing in own.things() if thing != own.root]
            at_root = [declared for declared in program.declarations() if program.block_of(declared) == block]
            # The library stands at the front of its block.
            start = program.things().index(block) + 1
            placed = dict(zip(things, program.things()[start:start + len(things)]))
            self.assertEqual(len(at_root), len(item.exports()))
            for use in own.uses():
                self.assertEqual(program.meaning(placed[use]), placed[own.meaning(use)])
                uses.remove(placed[use])
            for name, (thing, _) in item.exports().items():
                self.assertEqual(program.name_of(placed[thing]), name)
            known[item.name] = placed
            block = program.content(program.rows_of(block)[-1])[1]
        within = [thing for thing in program.declarations() if block in program.path(program.block_of(thing))]
        for use, meaning, (name, own) in zip(uses, stack.meanings(client), scan_text(client, seen=self.many(stack)), strict=True):
            met[own] += 1
            self.assertEqual(own, meaning is None)
            self.assertEqual(program.name_of(program.meaning(use)), name)
            if meaning is None:
                self.assertIn(program.meaning(use), within)
            else:
                self.assertEqual((program.meaning(use), stack.sees(name)), (known[meaning[0]][meaning[1]], meaning))

    def many(self, stack):
        return {name: seen[2] for name, seen in stack.seen().items()}

    def test_without_a_client(self):
        for seed in range(40):
            stack = random_stack(seed)
            text = stack.stacked_text("")
            self.assertEqual(program_text(read_text(text)).split(), text.split())
            self.assertEqual(len(stack.stacked("")), sum(len(item.program) + 1 for item in stack.libraries()))

    def test_all_orders(self):
        items = [library("base", "let x = 1\n"), library("lib", "let x = 2\n"), library("top", "def x() {\n}\n")]
        for order in itertools.permutations(items):
            self.assertEqual(Stack(*order).sees("x")[0], order[-1].name)


if __name__ == "__main__":
    unittest.main()
