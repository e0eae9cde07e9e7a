import itertools
import random
import unittest

from piercednames.carried import WideTable
from piercednames.errors import Doubled, InvalidCells, InvalidWay, SharedCell
from piercednames.making import make
from piercednames.parting import deal_cells, fewest_cells, parting
from piercednames.runs import Run
from piercednames.texts import read_text
from tests.reference_names import Facts, met
from tests.samples import empty_program, odd_values, right_programs, single_programs
from tests.test_runs import WAYS, random_dealing


def at(number):
    return ("", number)


def programs():
    few = single_programs(60) + single_programs(60, rows=60) + single_programs(40, letters=9)
    return few + right_programs(80) + right_programs(40, rows=60) + right_programs(40, spare=2)


def alike_labels(facts, labels):
    """Whether two wide stretches of one label meet."""
    return any(labels[a] == labels[b] for a, b in met(facts.wide_stretches()))


class PartingTest(unittest.TestCase):
    def check(self, program, by, cells, is_wanted):
        choices = parting(program, by=by, cells=cells)
        self.assertIs(choices is not None, is_wanted)
        if choices is None:
            return
        self.assertIsInstance(choices, list)
        self.assertLessEqual(len(choices), 2 * len(program))
        run = Run(program, by=by, choices=choices, cells=cells)
        run.run(1000)
        self.assertNotEqual(run.ended, "")
        self.assertIsNotNone(run.untrue())

    def test_exactly_if_there_is_one(self):
        told = set()
        for seed, program in enumerate(programs()):
            facts = Facts(program)
            alive = facts.alive()
            caught = any(facts.homes[fault[1]] in alive for fault in facts.faults() if fault[0] == "caught")
            by_callers = alike_labels(facts, facts.names)
            dealing = random_dealing(program, random.Random(seed))
            self.check(program, "meaning", None, False)
            self.check(program, "text", None, caught)
            self.check(program, "callers", None, by_callers)
            self.check(program, "cells", None, by_callers)
            self.check(program, "cells", dealing, alike_labels(facts, dealing))
            told |= {("text", caught), ("callers", by_callers), ("dealing", alike_labels(facts, dealing))}
            told |= {("right, but not by callers", by_callers and not caught)}
        self.assertEqual(len(told), 8)

    def test_none_is_found_by_trying(self):
        tried = 0
        for program in right_programs(60, rows=15, spare=1):
            for by in ("text", "callers"):
                if parting(program, by=by) is None:
                    for choices in itertools.product([0, 1, 2], repeat=3):
                        tried += 1
                        run = Run(program, by=by, choices=choices * 3)
                        run.run(200)
                        self.assertIsNone(run.untrue())
        self.assertGreater(tried, 1000)

    def test_by_callers_is_the_default(self):
        program = read_text("let x = 1\ndef p() {\nout x\n}\nblock {\nlet x = 2\ndo p()\n}\n")
        self.assertEqual(parting(program), parting(program, by="callers"))
        self.assertEqual(parting(program), [1])
        self.assertIsNone(parting(program, by="text"))

    def test_a_long_way(self):
        # The use is in the second half of an if, in a repeat, in the last one of three procedures.
        text = (
            "let x = 1\nif 1 {\nif 1 {\n}\ndo p()\n}\n"
            "def p() {\nrepeat 1 {\n}\ndo q()\n}\n"
            "def q() {\nblock {\nif 0 {\ndo p()\n} else {\nrepeat 1 {\ndo r()\n}\n}\n}\n}\n"
            "def r() {\nif 0 {\n} else {\nout x\n}\n}\n"
            "block {\ndo q()\nlet x = 3\nif 0 {\n} else {\ndo p()\n}\n}\n"
        )
        program = read_text(text)
        self.check(program, "callers", None, True)
        self.check(program, "cells", None, True)
        self.check(program, "text", None, False)

    def test_procedures_that_call_themselves(self):
        # x of p is caught by callers only if p calls itself from within q.
        text = "def p() {\nlet x = 1\ndef q() {\nout x\n}\nblock {\nlet x = 2\ndo q()\n}\ndo p()\n}\ndo p()\n"
        self.check(read_text(text), "callers", None, True)
        text = "def p() {\nlet x = 1\ndef q() {\nout x\ndo p()\n}\ndo q()\n}\ndo p()\n"
        self.check(read_text(text), "callers", None, False)

    def test_dead_rows_count_for_nothing(self):
        text = "let x = 1\ndef p() {\nlet x = 2\ndo q()\n}\ndef q() {\nout x\n}\n"
        self.check(read_text(text), "callers", None, False)
        self.check(read_text(text + "do p()\n"), "callers", None, True)
        program = make([("let", "x", 1), ("def", "p", ("y",), [("out", "x")])], names={"y": "x"})
        self.check(program, "text", None, False)

    def test_the_empty_program(self):
        for by in WAYS:
            self.assertIsNone(parting(empty_program(), by=by))

    def test_great_programs(self):
        # A chain of procedures, in each of which an if takes a choice ahead of the call.
        names = [letter + other for letter in "abcdefghij" for other in "xy"]
        text = "let n = 1\ndo ax()\nblock {\nlet n = 2\ndo ax()\n}\n"
        for name, following in zip(names, names[1:] + [None]):
            inner = f"do {following}()" if following else "out n"
            text += f"def {name}() {{\nif 1 {{\nout 1\n}} else {{\nrepeat 2 {{\n{inner}\n}}\n}}\n}}\n"
        self.check(read_text(text), "callers", None, True)

    def test_errors_as_run(self):
        doubled = make([("let", "x", 1), ("let", "y", 1)], names={"y": "x"})
        x, y = doubled.declarations()
        for value in odd_values():
            with self.assertRaises(InvalidWay) as caught:
                parting(doubled, by=value)
            self.assertEqual(repr(caught.exception.value), repr(value))
        for given in ({}, {"by": "text"}, {"by": "callers", "cells": {x: 1, y: 2}}, {"by": "cells"}):
            with self.assertRaises(Doubled) as caught:
                parting(doubled, **given)
            self.assertEqual((caught.exception.first, caught.exception.second), (x, y))
        with self.assertRaises(InvalidCells) as caught:
            parting(doubled, by="cells", cells={x: 1, y: True})
        self.assertEqual(caught.exception.declaration, y)
        with self.assertRaises(SharedCell) as caught:
            parting(doubled, by="cells", cells={x: 1, y: 1})
        self.assertEqual((caught.exception.first, caught.exception.second), (x, y))
        self.assertIsNone(parting(doubled, by="cells", cells={x: 1, y: 2}))
        self.assertIsNone(parting(doubled, by="meaning", cells=None))


class CellsTest(unittest.TestCase):
    def test_dealt_cells(self):
        for program in programs():
            facts = Facts(program)
            stretches = facts.wide_stretches()
            wanted = self.wanted(facts, stretches)
            dealt = deal_cells(program)
            self.assertEqual(list(dealt.items()), [(d, wanted[d]) for d in facts.declarations])
            self.assertIsNone(parting(program, by="cells", cells=dealt))
            most = max(sum(block in stretches[d] for d in stretches) for block in facts.blocks)
            self.assertEqual(fewest_cells(program), most)
            self.assertEqual(len({dealt[d] for d in stretches}), most)
            self.assertEqual(fewest_cells(program), len(WideTable(program).greatest_crowd()[1]))

    def wanted(self, facts, stretches):
        wanted = {}
        for d in facts.top_order(stretches):
            near = {wanted[other] for other in wanted if stretches[other] & stretches[d]}
            wanted[d] = min(number for number in range(99) if number not in near)
        for d in facts.declarations:
            if d not in stretches:
                near = {wanted[other] for other in wanted if facts.homes[other] == facts.homes[d]}
                wanted[d] = min(number for number in range(99) if number not in near)
        return wanted

    def test_fewer_cells_part(self):
        tried = 0
        for program in right_programs(60, rows=14) + single_programs(60, rows=10):
            few = fewest_cells(program) - 1
            things = program.declarations()
            if few < 1 or few ** len(things) > 300:
                continue
            for cells in itertools.product(range(few), repeat=len(things)):
                dealing = dict(zip(things, cells))
                homes = {(program.block_of(thing), dealing[thing]) for thing in things}
                if len(homes) == len(things):
                    tried += 1
                    self.assertIsNotNone(parting(program, by="cells", cells=dealing))
        self.assertGreater(tried, 20)

    def test_an_example_of_point_34(self):
        # x of the block and y of p can have one cell: nobody below the call uses x.
        program = read_text("def p() {\nlet y = 7\nout y\n}\nblock {\nlet x = 5\ndo p()\nout x\n}\n")
        p, y, x = program.declarations()
        self.assertEqual(deal_cells(program), {p: 0, y: 0, x: 1})
        self.assertEqual(fewest_cells(program), 2)
        dealing = {p: 0, y: 1, x: 1}
        run = Run(program, by="cells", cells=dealing)
        run.run()
        self.assertEqual((run.outputs(), run.untrue()), ([7, 5], None))

    def test_dead_declarations(self):
        program = read_text("let a = 1\nlet b = 2\ndef p(c, d) {\nlet e = 1\nblock {\nlet f = 1\n}\n}\n")
        self.assertEqual(list(deal_cells(program).values()), [0, 1, 2, 0, 1, 2, 0])
        self.assertEqual(fewest_cells(program), 3)

    def test_no_declarations(self):
        self.assertEqual((deal_cells(empty_program()), fewest_cells(empty_program())), ({}, 0))

    def test_wrong_names_do_not_matter(self):
        program = make([("let", "x", 1), ("let", "y", 1)], names={"y": "x"})
        self.assertEqual(list(deal_cells(program).values()), [0, 1])


if __name__ == "__main__":
    unittest.main()
