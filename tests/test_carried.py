import unittest

from piercednames.carried import WideTable
from piercednames.errors import UnknownId
from piercednames.making import make
from piercednames.stretches import Table
from piercednames.texts import read_text
from tests import test_stretches
from tests.reference_names import Facts
from tests.samples import empty_program, odd_values, random_program, wrong_programs


def at(number):
    return ("", number)


# The root calls p, which calls itself and q; q uses x. Nobody calls dead, which calls p and has alone.
TREE = [
    ("let", "x", 1),
    ("let", "y", 2),
    ("def", "p", ("a",), [("do", "p", ("a",)), ("block", [("do", "q", ())]), ("out", "y")]),
    ("def", "q", (), [("out", "x"), ("let", "z", 3), ("def", "r", (), [("set", "z", "x")]), ("do", "r", ())]),
    ("def", "dead", ("b",), [("do", "p", ("b",)), ("def", "alone", (), [("out", "b")]), ("do", "alone", ())]),
    ("block", [("block", [("do", "p", (1,))])]),
]


def sample():
    program = make(TREE)
    return WideTable(program), {program.name_of(thing): thing for thing in program.declarations()}


def programs():
    return wrong_programs(60) + wrong_programs(20, rows=60, depth=3)


class RegionTest(unittest.TestCase):
    def test_regions(self):
        table, named = sample()
        program = table.program
        body = {label: program.body(named[label]) for label in ("p", "q", "r", "dead", "alone")}
        self.assertIsNone(table.region(program.root))
        for label in body:
            self.assertEqual(table.region(body[label]), named[label])
        inner = [block for block in program.blocks() if program.parent(block) == body["p"]]
        self.assertEqual([table.region(block) for block in inner], [named["p"]])
        self.assertIsNone(table.region(program.blocks()[-1]))

    def test_alive_blocks(self):
        table, named = sample()
        dead = [table.program.body(named[label]) for label in ("dead", "alone")]
        self.assertEqual(table.alive_blocks(), [block for block in table.program.blocks() if block not in dead])

    def test_a_procedure_that_calls_itself_alone_is_dead(self):
        table = WideTable(make([("def", "p", (), [("do", "p", ())])]))
        self.assertEqual(table.alive_blocks(), [at(0)])
        self.assertEqual(table.declarations(), table.program.declarations())
        self.assertEqual(table.wants(at(2)), [at(2)])
        self.assertEqual(table.stretch(at(2)).blocks(), [at(0)])

    def test_two_that_call_one_another_are_dead(self):
        tree = [("def", "p", (), [("do", "q", ())]), ("def", "q", (), [("do", "p", ())])]
        table = WideTable(make(tree))
        p, q = table.program.declarations()
        self.assertEqual((table.wants(p), table.wants(q)), ([p, q], [p, q]))
        self.assertEqual(len(table.alive_blocks()), 1)

    def test_random_programs(self):
        for program in programs():
            table, facts = WideTable(program), Facts(program)
            self.assertEqual(table.alive_blocks(), facts.alive())
            for block in facts.blocks:
                self.assertEqual(table.region(block), facts.region(block))
            for p in facts.procedures():
                wanted = [d for d in facts.declarations if p in facts.wanting(d)]
                self.assertEqual(table.wants(p), wanted)


class WantsTest(unittest.TestCase):
    def test_wants(self):
        table, named = sample()

        def wants(label):
            return [table.program.name_of(thing) for thing in table.wants(named[label])]

        self.assertEqual(wants("p"), ["x", "y", "p", "q"])
        self.assertEqual(wants("q"), ["x"])
        self.assertEqual(wants("r"), ["x", "z"])
        self.assertEqual(wants("dead"), ["x", "y", "p", "q"])
        self.assertEqual(wants("alone"), ["b"])

    def test_a_variable_within_a_called_procedure_is_not_wanted(self):
        # p has x; q within p uses it. p wants nothing, though it calls q, which wants x.
        tree = [("def", "p", (), [("let", "x", 1), ("def", "q", (), [("out", "x")]), ("do", "q", ())]), ("do", "p", ())]
        table = WideTable(make(tree))
        p, x, q = table.program.declarations()
        self.assertEqual((table.wants(p), table.wants(q)), ([], [x]))

    def test_unknown_ids(self):
        table, named = sample()
        things = [thing for thing in table.program.things() if table.program.kind_of(thing) != "declaration"]
        variables = [named[label] for label in ("x", "a", "b")]
        for value in odd_values() + things + variables:
            with self.assertRaises(UnknownId) as caught:
                table.wants(value)
            self.assertEqual(repr(caught.exception.thing), repr(value))
        for value in odd_values() + [thing for thing in table.program.things() if thing not in table.program.blocks()]:
            with self.assertRaises(UnknownId) as caught:
                table.region(value)
            self.assertEqual(repr(caught.exception.thing), repr(value))


class WideTableTest(unittest.TestCase):
    def test_the_examples(self):
        text = "let x = 1\ndef p() {\nout x\n}\nblock {\nlet x = 2\ndo p()\n}\n"
        table = WideTable(read_text(text))
        self.assertEqual(table.wants(at(5)), [at(2)])
        self.assertEqual(table.clashing(), [(at(2), at(12))])
        self.assertEqual(Table(read_text(text)).clashing(), [])

    def test_random_programs(self):
        # All that a table has answers for the wide stretches.
        for program in programs():
            facts = Facts(program)
            test_stretches.TableTest.check(self, WideTable(program), facts, facts.wide_stretches())

    def test_only_what_is_alive(self):
        table, named = sample()
        labels = [table.program.name_of(thing) for thing in table.declarations()]
        self.assertEqual(labels, ["x", "y", "p", "a", "q", "z", "r", "dead"])
        for label in ("b", "alone"):
            for call in (
                lambda: table.stretch(named[label]), lambda: table.ahead(named[label]),
                lambda: table.meets(named["x"], named[label]), lambda: table.common([named[label]]),
                lambda: table.unlike([named[label]]), lambda: table.reason(named[label], at(0)),
            ):
                with self.assertRaises(UnknownId) as caught:
                    call()
                self.assertEqual(caught.exception.thing, named[label])

    def test_blocks_that_are_dead(self):
        table, named = sample()
        self.assertEqual(table.crowd(table.program.body(named["dead"])), [])
        self.assertEqual(table.common([]), table.program.blocks())

    def test_wide_stretches(self):
        table, named = sample()
        program = table.program
        outer, inner = program.blocks()[-2:]
        body = {label: program.body(named[label]) for label in ("p", "q", "r")}
        within = [block for block in program.blocks() if program.parent(block) == body["p"]]
        # p wants x by q, and is called in the inner block.
        wanted = [at(0), body["p"], *within, body["q"], body["r"], outer, inner]
        self.assertEqual(table.stretch(named["x"]).blocks(), wanted)
        self.assertEqual(table.stretch(named["y"]).blocks(), [at(0), body["p"], outer, inner])
        self.assertEqual(table.stretch(named["a"]).blocks(), [body["p"]])
        self.assertEqual(table.stretch(named["z"]).blocks(), [body["q"], body["r"]])
        # The call of alone from dead counts for nothing.
        self.assertEqual(table.stretch(named["dead"]).blocks(), [at(0)])

    def test_len_truth_and_repr(self):
        table, _ = sample()
        self.assertEqual((len(table), bool(table), repr(table)), (8, True, "WideTable(8 declarations)"))
        empty = WideTable(empty_program())
        self.assertEqual((len(empty), bool(empty), repr(empty)), (0, True, "WideTable(0 declarations)"))
        self.assertIsInstance(table, Table)
        self.assertEqual(table.program, make(TREE))

    def test_lists_are_new(self):
        table, named = sample()
        for read in (table.alive_blocks, table.declarations, lambda: table.wants(named["p"])):
            read().clear()
            self.assertTrue(read())


class ReasonTest(unittest.TestCase):
    def test_each_block_has_a_reason(self):
        lengths = set()
        for program in programs() + [random_program(seed, 60, 3) for seed in range(20)] + [make(TREE)]:
            table, facts = WideTable(program), Facts(program)
            alive, bodies = set(facts.alive()), {p: facts.body(p) for p in facts.procedures()}
            called = {row: procedure for row, _, procedure in facts.calls()}
            for d, blocks in facts.wide_stretches().items():
                for block in blocks - {facts.homes[d]}:
                    use, rows = table.reason(d, block)
                    lengths.add(len(rows))
                    self.assertIsInstance(rows, tuple)
                    self.assertEqual(facts.meanings[use], d)
                    low = facts.rows[rows[0]][0] if rows else facts.homes[use]
                    self.assertIn(low, alive)
                    self.assertIn(block, facts.above(low))
                    for one, other in zip(rows, rows[1:]):
                        self.assertEqual(facts.region(facts.rows[other][0]), called[one])
                    if rows:
                        self.assertEqual(facts.region(facts.homes[use]), called[rows[-1]])
                    for row in rows:
                        self.assertNotIn(bodies[called[row]], facts.above(facts.homes[d]))
        self.assertLessEqual({0, 1, 2}, lengths)

    def test_unknown_blocks(self):
        table, named = sample()
        body = table.program.body(named["p"])
        use, rows = table.reason(named["y"], body)
        self.assertEqual((table.program.meaning(use), rows), (named["y"], ()))
        wrong = [at(0), table.program.body(named["q"]), table.program.body(named["dead"]), named["y"]]
        for value in odd_values() + wrong:
            with self.assertRaises(UnknownId) as caught:
                table.reason(named["y"], value)
            self.assertEqual(repr(caught.exception.thing), repr(value))

    def test_unknown_declarations_come_first(self):
        table, named = sample()
        for value in odd_values() + [named["b"], table.program.body(named["p"])]:
            with self.assertRaises(UnknownId) as caught:
                table.reason(value, None)
            self.assertEqual(repr(caught.exception.thing), repr(value))


if __name__ == "__main__":
    unittest.main()
