import random
import unittest

from piercednames.carried import WideTable
from piercednames.errors import Doubled, Ended, InvalidCells, InvalidItem, InvalidNumber, InvalidWay, SharedCell
from piercednames.making import make
from piercednames.meaning import faults
from piercednames.runs import Run
from piercednames.texts import read_text
from tests.reference_runs import ReferenceRun, told
from tests.samples import (
    MANY_CALLS, empty_program, named_by_chance, odd_values, random_program, right_programs, single_programs,
)

WAYS = ("meaning", "text", "callers", "cells")


def at(number):
    return ("", number)


def random_dealing(program, source):
    """A dealing with few numbers, different ones in each block."""
    dealing, taken = {}, {}
    for thing in program.declarations():
        used = taken.setdefault(program.block_of(thing), [])
        dealing[thing] = source.choice([cell for cell in range(40) if cell not in used][:source.choice([1, 3, 30])])
        used.append(dealing[thing])
    return dealing


def programs():
    return single_programs(60) + right_programs(40) + single_programs(30, letters=1) + single_programs(20, rows=60)


def cases(seed=0):
    """(program, the arguments of a run) by each way, with and without choices."""
    for index, program in enumerate(programs()):
        source = random.Random(index + seed)
        for by in (*WAYS, "dealt"):
            given = {"by": by, "inputs": [source.choice([0, 1, 2, 5, 999999]) for _ in range(source.randint(0, 4))]}
            if by == "dealt":
                given.update(by="cells", cells=random_dealing(program, source))
            if source.random() < 0.5:
                given["choices"] = [source.randint(0, 2) for _ in range(source.choice([0, 3, 10, 40]))]
            yield program, given


def outputs(text, by="text", inputs=(), **more):
    run = Run(read_text(text), by=by, inputs=inputs, **more)
    run.run()
    return run.outputs()


class StepTest(unittest.TestCase):
    def test_step_by_step(self):
        ends = set()
        for program, given in cases():
            run, wanted = Run(program, **given), ReferenceRun(program, **given)
            self.assertEqual(told(run), wanted.told())
            for _ in range(150):
                if run.ended:
                    break
                self.assertIsNone(run.step())
                wanted.step()
                self.assertEqual(told(run), wanted.told())
                self.assertEqual(list(run.cells()), sorted(run.cells()))
            ends.add((given["by"], "choices" in given, run.ended))
            if run.ended:
                self.refused(run)
        wanted = {(by, free, ended) for by in WAYS for free in (True, False) for ended in ("done", "clash")}
        wanted -= {("meaning", True, "clash"), ("meaning", False, "clash")}
        self.assertEqual({end for end in ends if end[2]}, wanted)

    def refused(self, run):
        before = told(run)
        with self.assertRaises(Ended):
            run.step()
        self.assertEqual(run.run(), 0)
        self.assertEqual(told(run), before)

    def test_wrong_names_by_meaning(self):
        for seed in range(40):
            program = random_program(seed, kinds=MANY_CALLS)
            run = Run(named_by_chance(program, seed, "a"), by="meaning", inputs=[3, 4])
            other = Run(program, by="meaning", inputs=[3, 4])
            self.assertEqual(run.run(), other.run())
            self.assertEqual(told(run), told(other))
            self.assertIsNone(run.untrue())

    def test_the_example(self):
        program = read_text("let x = 1\ndef p() {\nout x\n}\nblock {\nlet x = 2\ndo p()\n}\n")
        one, other = Run(program), Run(program, by="callers")
        self.assertEqual([one.run(), one.outputs(), other.run(), other.outputs(), other.untrue()], [9, [1], 9, [2], 1])
        self.assertEqual((one.ended, one.step_count, one.untrue()), ("done", 9, None))

    def test_the_empty_program(self):
        for by in WAYS:
            run = Run(empty_program(), by=by)
            self.assertEqual((run.frames(), run.ended, run.step_count), ([(at(0), 0, ())], "", 0))
            self.assertEqual(run.run(), 1)
            self.assertEqual((run.frames(), run.cells(), run.ended, run.step_count), ([], {}, "done", 1))

    def test_arithmetic(self):
        self.assertEqual(outputs("out 999999 + 1\nout 999999 + 2\nout 0 - 1\nout 3 - 5"), [0, 1, 999999, 999998])
        self.assertEqual(outputs("out 1000 * 1000\nout 1001 * 1000\nout 999999 * 999999"), [0, 1000, 1])
        self.assertEqual(outputs("out 1 < 2\nout 2 < 2\nout 3 < 2\nout 1 - 2 < 2"), [1, 0, 0, 0])

    def test_inputs(self):
        text = "let x = 5\nread x\nout x\nread x\nout x\nread x\nout x\n"
        self.assertEqual(outputs(text, inputs=[7, 999999]), [7, 999999, 0])
        run = Run(read_text(text), inputs=(1, 2, 3, 4, 5))
        self.assertEqual(run.left(), 5)
        run.run()
        self.assertEqual((run.outputs(), run.left()), ([1, 2, 3], 2))

    def test_variables_are_0_ahead_of_their_rows(self):
        self.assertEqual(outputs("out x\nlet x = 3\nout x"), [0, 3])
        self.assertEqual(outputs("repeat 2 {\nout x\nlet x = 3\nout x\n}"), [0, 3, 0, 3])
        # A let gives its value in the newest frame: the x of the inner call is another one.
        text = "def p(n) {\nout x\nlet x = n\nif n {\ndo p(n - 1)\n}\nout x\n}\ndo p(2)"
        for by in WAYS:
            self.assertEqual(outputs(text, by=by), [0, 0, 0, 0, 1, 2])

    def test_halves(self):
        text = "if {} {{\nout 1\n}} else {{\nout 2\n}}"
        self.assertEqual([outputs(text.format(number)) for number in (0, 1, 5)], [[2], [1], [1]])
        self.assertEqual([outputs(text.format(7), choices=[choice]) for choice in (0, 1, 2)], [[1], [2], [2]])
        self.assertEqual(outputs(text.format(0), choices=[]), [1])

    def test_repeats(self):
        text = "repeat {} {{\nout 1\n}}"
        self.assertEqual([len(outputs(text.format(number))) for number in (0, 1, 3)], [0, 1, 3])
        self.assertEqual([len(outputs(text.format(3), choices=[choice])) for choice in (0, 1, 2)], [0, 1, 2])
        self.assertEqual(outputs(text.format(3), choices=[]), [])
        run = Run(read_text(text.format(2)))
        run.step()
        self.assertEqual([frame[1] for frame in run.frames()], [1, 0])
        run.step()
        self.assertEqual([frame[1] for frame in run.frames()], [1, 1])
        # The body is left and entered again in one step.
        run.step()
        self.assertEqual([frame[1] for frame in run.frames()], [1, 0])
        self.assertEqual((run.run(), run.step_count), (3, 6))

    def test_calls(self):
        text = "def p(a) {\nout a\n}\ndo p(1)\ndo p(2)\ndo p(3)"
        self.assertEqual(outputs(text), [1, 2, 3])
        self.assertEqual(outputs(text, choices=[1, 0, 2]), [1, 3])
        self.assertEqual(outputs(text, choices=[]), [])
        self.assertEqual(outputs(text, choices=[0, 1, 1, 2, 2, 2, 0]), [2, 3])

    def test_a_nested_procedure_sees_the_frame_in_which_it_was_met(self):
        text = (
            "def p(n) {\ndef q() {\nset n = n + 10\n}\nif n < 2 {\ndo p(n + 1)\n}\ndo q()\nout n\n}\ndo p(0)"
        )
        for by in WAYS:
            self.assertEqual(outputs(text, by=by), [12, 11, 10])

    def test_text_goes_by_the_nearest_frame_upward(self):
        program = make([
            ("let", "x", 1), ("block", [("let", "y", 2), ("out", "x"), ("set", "x", 5), ("out", "y")]), ("out", "x"),
        ], names={"y": "x"})
        run, other = Run(program), Run(program, by="meaning")
        run.run()
        other.run()
        self.assertEqual((run.outputs(), run.untrue()), ([2, 5, 1], 0))
        self.assertEqual((other.outputs(), other.untrue()), ([1, 2, 5], None))

    def test_untrue_notes(self):
        program = make([
            ("let", "x", 1), ("let", "z", 1), ("block", [("out", "z"), ("let", "y", 2), ("out", "x")]),
        ], names={"y": "x"})
        run = Run(program)
        run.run()
        self.assertEqual(run.untrue(), 1)
        uses = program.uses()
        self.assertEqual(run.notes(), [(uses[0], at(5)), (uses[1], program.declarations()[2])])

    def test_great_runs(self):
        program = read_text("def p(n) {\nlet x = n\ndo p(n + 1)\n}\ndo p(0)")
        for by in WAYS:
            run = Run(program, by=by)
            self.assertEqual(run.run(5000), 5000)
            self.assertEqual(len(run.frames()), 2501)
            self.assertEqual((run.ended, run.step_count), ("", 5000))
        self.assertEqual(outputs("repeat 999999 {\n}\nout 1"), [])


class ClashTest(unittest.TestCase):
    def program(self):
        tree = [
            ("let", "x", 1), ("def", "p", ("a",), []),
            ("block", [("def", "q", (), []), ("let", "z", 3), ("read", "x"), ("out", 5)]),
            ("block", [("let", "y", 2), ("do", "p", ("x",)), ("out", 6)]),
        ]
        return make(tree, names={"q": "x", "y": "p"})

    def test_a_variable_was_meant_and_a_procedure_is_met(self):
        run = Run(self.program(), inputs=[8])
        self.assertEqual((run.run(), run.ended, run.step_count), (6, "clash", 6))
        use = self.program().uses()[0]
        self.assertEqual((run.notes(), run.untrue()), ([(use, self.program().declarations()[3])], 0))
        # The input is not taken, the row counts as done, and the frames stay.
        self.assertEqual((run.left(), run.outputs()), (1, []))
        self.assertEqual([many for _, many, _ in run.frames()], [3, 3])

    def test_all_uses_of_the_row_are_noted(self):
        program = self.program()
        _, rows, names, meanings, values = program.state()
        inner = [row for row in program.rows() if program.content(row)[0] == "read"][0]
        del rows[inner], meanings[program.uses()[0]]
        run = Run(program.__class__(program.root, rows, names, meanings, values), choices=[0, 1, 1])
        run.run()
        self.assertEqual((run.ended, len(run.notes()), run.choices_taken()), ("clash", 2, 0))

    def test_a_procedure_with_other_parameters(self):
        tree = [("def", "p", (), []), ("block", [("def", "q", ("a",), []), ("do", "p", ())])]
        for q, ended in (("p", "clash"), ("q", "done")):
            for by in ("text", "callers", "cells"):
                run = Run(make(tree, names={"q": q}), by=by)
                run.run()
                self.assertEqual(run.ended, ended)

    def test_a_procedure_with_as_many_parameters_is_called(self):
        tree = [("def", "p", (), [("out", 1)]), ("block", [("def", "q", (), [("out", 2)]), ("do", "p", ())])]
        run = Run(make(tree, names={"q": "p"}))
        run.run()
        self.assertEqual((run.outputs(), run.ended, run.untrue()), ([2], "done", 0))


class CellsTest(unittest.TestCase):
    def test_cells_are_saved_and_come_back(self):
        program = read_text("let x = 4\ndef p() {\nlet y = 7\nout y\n}\nblock {\nset x = 5\ndo p()\nout x\n}\n")
        x, p, y = program.declarations()
        run = Run(program, by="cells", cells={x: 3, p: 1, y: 3})
        self.assertEqual(run.cells(), {1: (p, None), 3: (x, 0)})
        self.assertEqual(run.frames(), [(at(0), 0, ((3, None, None), (1, None, None)))])
        run.run(5)
        self.assertEqual(run.cells(), {1: (p, None), 3: (y, 0)})
        self.assertEqual(run.frames()[-1], (program.body(p), 0, ((3, x, 5),)))
        run.run(1)
        self.assertEqual(run.cells(), {1: (p, None), 3: (y, 7)})
        run.run()
        self.assertEqual((run.outputs(), run.untrue(), run.cells(), run.frames()), ([7, 5], None, {}, []))

    def test_no_dealing_goes_by_the_names(self):
        program = read_text("let b = 1\nlet c = 2\ndef a(b) {\n}\n")
        b, c, a, _ = program.declarations()
        run = Run(program, by="cells")
        run.run(2)
        self.assertEqual(run.cells(), {0: (a, None), 1: (b, 1), 2: (c, 2)})

    def test_as_by_callers_without_a_dealing(self):
        for seed, program in enumerate(programs()):
            source = random.Random(seed)
            inputs = [source.randint(0, 3) for _ in range(3)]
            for choices in (None, [source.randint(0, 2) for _ in range(20)]):
                one = Run(program, by="cells", inputs=inputs, choices=choices)
                other = Run(program, by="callers", inputs=inputs, choices=choices)
                for _ in range(120):
                    self.assertEqual(one.run(1), other.run(1))
                    self.assertEqual(
                        (one.notes(), one.outputs(), one.ended, one.left(), one.untrue()),
                        (other.notes(), other.outputs(), other.ended, other.left(), other.untrue()),
                    )
                    self.assertEqual([frame[:2] for frame in one.frames()], [frame[:2] for frame in other.frames()])

    def test_other_keys_of_a_dealing_mean_nothing(self):
        program = read_text("let x = 1\nout x")
        dealing = {at(2): 0, at(99): -5, None: [], "x": {}, True: 3, (): ()}
        run = Run(program, by="cells", cells=dealing)
        run.run(1)
        self.assertEqual(run.cells(), {0: (at(2), 1)})

    def test_no_cells_by_other_ways(self):
        for by in ("meaning", "text", "callers"):
            run = Run(read_text("let x = 1"), by=by)
            run.run(1)
            self.assertEqual((run.cells(), run.frames()), ({}, [(at(0), 1, ((at(2), 1),))]))


class FactsTest(unittest.TestCase):
    def test_without_untrue_notes_runs_do_what_is_meant(self):
        checked = 0
        for program in right_programs(60, spare=1):
            meant = Run(program, by="meaning", inputs=[3, 1])
            meant.run(400)
            for by in ("text", "callers", "cells"):
                run = Run(program, by=by, inputs=[3, 1])
                run.run(400)
                if by == "text" or not WideTable(program).clashing():
                    checked += 1
                    self.assertEqual((run.outputs(), run.notes()), (meant.outputs(), meant.notes()))
                    self.assertEqual((run.untrue(), run.ended), (None, meant.ended))
        self.assertGreater(checked, 100)

    def test_free_runs_end(self):
        for program in single_programs(60):
            source = random.Random(7)
            for by in WAYS:
                run = Run(program, by=by, choices=[source.randint(0, 2) for _ in range(12)])
                run.run(5000)
                self.assertNotEqual(run.ended, "")

    def test_the_example_of_point_33(self):
        program = read_text("let x = 1\ndef p() {\nout x\n}\nblock {\nlet x = 2\ndo p()\n}\n")
        self.assertEqual(faults(program), [])
        self.assertEqual(outputs("let x = 1\ndef p() {\nout x\n}\nblock {\nlet x = 2\ndo p()\n}\n", by="callers"), [2])


class ObjectTest(unittest.TestCase):
    def test_ways(self):
        self.assertEqual(Run.WAYS, WAYS)

    def test_repr(self):
        run = Run(read_text("out 1"))
        self.assertEqual(repr(run), "Run(running)")
        run.run()
        self.assertEqual(repr(run), "Run(done)")
        run = Run(make([("let", "x", 1), ("block", [("def", "q", (), []), ("out", "x")])], names={"q": "x"}))
        run.run()
        self.assertEqual(repr(run), "Run(clash)")

    def test_properties_cannot_be_assigned(self):
        run = Run(read_text("out 1"))
        for name in ("ended", "step_count"):
            with self.assertRaises(AttributeError):
                setattr(run, name, "done")

    def test_run_returns_how_many(self):
        program = read_text("repeat 999999 {\n}")
        run = Run(program)
        self.assertEqual([run.run(), run.run(0), run.run(7), run.run(most=5000), run.step_count], [300, 0, 7, 5000, 5307])

    def test_invalid_numbers(self):
        run = Run(read_text("out 1"))
        for value in odd_values() + [-1, 5001]:
            if value in (0, 1, 2) and not isinstance(value, bool):
                continue
            with self.assertRaises(InvalidNumber) as caught:
                run.run(value)
            self.assertEqual(repr(caught.exception.value), repr(value))
        run.run()
        with self.assertRaises(InvalidNumber):
            run.run(5001)

    def test_twins_are_independent(self):
        for program, given in cases(seed=3):
            run = Run(program, **given)
            run.run(12)
            before = told(run)
            twin = run.twin()
            self.assertEqual(told(twin), before)
            twin.run(100)
            self.assertEqual(told(run), before)
            after = told(twin)
            again = run.twin()
            run.run(100)
            self.assertEqual(told(run), after)
            self.assertEqual(told(again), before)
            self.assertEqual(repr(run), repr(twin))

    def test_lists_are_new_and_arguments_are_copied(self):
        program = read_text("let x = 1\nread x\nout x\nif x {\nout 5\n}\n")
        inputs, choices, cells = [7], [1], {at(2): 4}
        run = Run(program, by="cells", inputs=inputs, choices=choices, cells=cells)
        for given in (inputs, choices, cells):
            given.clear()
        run.run(4)
        self.assertEqual((run.outputs(), run.left()), ([7], 0))
        self.assertEqual(run.frames()[-1][0], program.blocks()[2])
        for read in (run.outputs, run.notes, run.frames, run.cells):
            self.assertTrue(read())
            read().clear()
            self.assertTrue(read())

    def test_arguments_are_not_changed(self):
        inputs, choices, cells = [7, 8], [1, 2], {at(2): 4}
        Run(read_text("let x = 1\nread x\nif x {\n}"), by="cells", inputs=inputs, choices=choices, cells=cells).run()
        self.assertEqual((inputs, choices, cells), ([7, 8], [1, 2], {at(2): 4}))


class ErrorsTest(unittest.TestCase):
    def refused(self, kind, program, **given):
        with self.assertRaises(kind) as caught:
            Run(program, **given)
        return caught.exception

    def doubled(self):
        return make([("let", "x", 1), ("let", "y", 1), ("let", "z", 1)], names={"y": "x", "z": "x"})

    def test_invalid_ways(self):
        for value in odd_values() + ["Text", "free", "cell", ("text",), ["text"]]:
            error = self.refused(InvalidWay, self.doubled(), by=value, inputs=[None], choices=[None], cells={})
            self.assertEqual(repr(error.value), repr(value))

    def test_invalid_items(self):
        for by in WAYS:
            for value in odd_values() + [1000000, -1]:
                if value in (0, 1, 2) and not isinstance(value, bool):
                    continue
                error = self.refused(InvalidItem, self.doubled(), by=by, inputs=[0, 999999, value, None], choices=[5])
                self.assertEqual(error.at, 2)
                error = self.refused(InvalidItem, self.doubled(), by=by, inputs=[1, 2], choices=[2, 1, 0, value, 3], cells={})
                self.assertEqual(error.at, 3)
            self.assertEqual(self.refused(InvalidItem, empty_program(), by=by, choices=(3,)).at, 0)
            self.assertEqual(self.refused(InvalidItem, empty_program(), by=by, choices=(-1,)).at, 0)

    def test_doubled(self):
        program = self.doubled()
        one, two, _ = program.declarations()
        for given in ({"by": "text"}, {"by": "callers"}, {"by": "cells"}, {"by": "text", "cells": {}}, {}):
            error = self.refused(Doubled, program, **given)
            self.assertEqual((error.first, error.second, error.block), (one, two, at(0)))
        Run(program, by="meaning")
        Run(program, by="cells", cells={thing: index for index, thing in enumerate(program.declarations())})

    def test_invalid_cells(self):
        program = self.doubled()
        one, two, three = program.declarations()
        for value in odd_values() + [-1, 1000]:
            if value in (0, 1, 2) and not isinstance(value, bool):
                continue
            error = self.refused(InvalidCells, program, by="cells", cells={one: 5, two: value, three: 5})
            self.assertEqual(error.declaration, two)
        self.assertEqual(self.refused(InvalidCells, program, by="cells", cells={one: 5, three: 5}).declaration, two)
        self.assertEqual(self.refused(InvalidCells, program, by="cells", cells={}).declaration, one)
        Run(program, by="cells", cells={one: 0, two: 999, three: 1})

    def test_true_in_the_place_of_a_number(self):
        rows = {at(3): (at(0), (1, 1), ("let", at(1), ("number", at(2))))}
        program = empty_program().__class__(at(0), rows, {at(1): "x"}, {}, {at(2): 1})
        self.assertEqual(self.refused(InvalidCells, program, by="cells", cells={("", True): 1}).declaration, at(1))

    def test_shared_cells(self):
        program = make([
            ("let", "x", 1), ("block", [("let", "y", 1), ("let", "z", 1), ("let", "v", 1)]), ("let", "w", 1),
        ])
        x, y, z, v, w = program.declarations()
        error = self.refused(SharedCell, program, by="cells", cells={x: 1, y: 1, z: 2, v: 2, w: 1})
        self.assertEqual((error.first, error.second), (z, v))
        error = self.refused(SharedCell, program, by="cells", cells={x: 1, y: 2, z: 2, v: 2, w: 1})
        self.assertEqual((error.first, error.second), (y, z))
        error = self.refused(SharedCell, program, by="cells", cells={x: 1, y: 1, z: 2, v: 3, w: 1})
        self.assertEqual((error.first, error.second), (x, w))
        Run(program, by="cells", cells={x: 1, y: 1, z: 2, v: 3, w: 0})

    def test_what_a_way_does_not_use_is_ignored(self):
        for by in ("meaning", "text", "callers"):
            for value in odd_values():
                self.assertEqual(Run(read_text("let x = 1\nout x"), by=by, cells=value).run(), 3)


if __name__ == "__main__":
    unittest.main()
