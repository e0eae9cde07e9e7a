import random
import unittest

from piercednames.errors import InvalidNumber, Missing, NamesError, NoRoom, NotAbove, NotFit, OutOfReach, UnknownId
from piercednames.meaning import faults
from piercednames.programs import Program
from piercednames.runs import Run
from piercednames.steps import first_number, hoist, inline, lift, unwrap, wrap
from piercednames.texts import read_text
from piercednames.writing import program_text
from tests import reference_edits
from tests.editing import Editor, crowded
from tests.samples import named_by_chance, odd_values, random_program

STEPS = ["lift", "inline", "hoist", "wrap", "unwrap"]
MANY_STEPS = "let let set out out read do do do def def if repeat block block"


def at(number):
    return ("", number)


def ann(number):
    return ("ann", number)


def step(program, edit, start):
    """The program after an edit that is a step, by the function of its own."""
    word, row, *rest = edit
    if word == "lift":
        return lift(program, row, *rest, person="ann", start=start)
    if word == "inline":
        return inline(program, row, person="ann", start=start)
    if word == "hoist":
        return hoist(program, row, *rest)
    if word == "wrap":
        return wrap(program, row, *rest, person="ann", start=start)
    return unwrap(program, row)


def told(error):
    known = dict(vars(error))
    return (known.pop("code"), *known.values())


def moved(program, row, position):
    """The program in which a row has another position in its block."""
    root, rows, names, meanings, values = program.state()
    block, _, content = rows[row]
    rows[row] = (block, position, content)
    return Program(root, rows, names, meanings, values)


class FirstNumberTest(unittest.TestCase):
    def test_first_number(self):
        program = read_text("let x = 1\n", owner="bob")
        self.assertEqual([first_number(program, person) for person in ("ann", "bob", "")], [1, 5 - 1, 1])
        self.assertEqual(first_number(read_text(""), "ann"), 1)
        self.assertEqual(first_number(read_text("", owner="ann"), "ann"), 1)
        put = wrap(program, ("bob", 1), 1, person="ann", start=10)
        self.assertEqual([first_number(put, person) for person in ("ann", "bob", "zoe")], [12, 4, 1])


class LiftTest(unittest.TestCase):
    TEXT = "let x = 1\nout x\nset x = x + 1\nout x\n"

    def test_ids_places_names_and_meanings(self):
        program = read_text(self.TEXT)
        rows = program.rows_of(program.root)
        result = lift(program, rows[1], 2, "f", person="ann", start=7)
        self.assertEqual(result.rows_of(at(0)), [ann(7), rows[0], ann(10), rows[3]])
        self.assertEqual([result.position(row) for row in result.rows_of(at(0))], [(1, 2), (1, 1), (2, 1), (4, 1)])
        self.assertEqual(result.content(ann(7)), ("def", ann(8), (), ann(9)))
        self.assertEqual(result.content(ann(10)), ("do", ann(11), ()))
        self.assertEqual((result.name_of(ann(8)), result.meaning(ann(11))), ("f", ann(8)))
        self.assertEqual(result.rows_of(ann(9)), rows[1:3])
        self.assertEqual([result.position(row) for row in rows[1:3]], [(1, 1), (2, 1)])
        self.assertEqual(
            program_text(result), "def f() {\n  out x\n  set x = x + 1\n}\nlet x = 1\ndo f()\nout x\n",
        )

    def test_the_first_row_and_all_rows(self):
        program = read_text("out 1\nout 2\n")
        first, second = program.rows_of(at(0))
        result = lift(program, first, 1, "f", person="ann", start=1)
        self.assertEqual(result.rows_of(at(0)), [ann(1), ann(4), second])
        self.assertEqual([result.position(row) for row in result.rows_of(at(0))], [(1, 2), (1, 1), (2, 1)])
        result = lift(program, first, 2, "f", person="ann", start=1)
        self.assertEqual(result.rows_of(at(0)), [ann(1), ann(4)])

    def test_in_an_inner_block(self):
        program = read_text("block {\nout 1\n}\n")
        inner = program.blocks()[1]
        result = lift(program, program.rows_of(inner)[0], 1, "f", person="ann", start=1)
        self.assertEqual(program_text(result), "block {\n  def f() {\n    out 1\n  }\n  do f()\n}\n")

    def test_a_name_that_makes_faults(self):
        program = read_text("let f = 1\nout f\n")
        result = lift(program, program.rows()[1], 1, "f", person="ann", start=1)
        self.assertEqual([fault[0] for fault in faults(result)], ["doubled", "caught"])

    def test_errors(self):
        program = read_text(self.TEXT)
        rows = program.rows()
        for value in [*odd_values(), at(0), at(2)]:
            with self.assertRaises(UnknownId) as caught:
                lift(program, value, 99, "f", person="ann", start=1)
            self.assertEqual(caught.exception.thing, value)
        for many in (4, 121, 10 ** 9):
            with self.assertRaises(InvalidNumber) as caught:
                lift(program, rows[1], many, "f", person="ann", start=1)
            self.assertEqual(caught.exception.value, many)
        with self.assertRaises(OutOfReach) as caught:
            lift(program, rows[0], 2, "f", person="ann", start=1)
        self.assertEqual(caught.exception.use, program.uses()[1])

    def test_room(self):
        program = read_text("let x = 1\nout 1\nout 2\n")
        x, one, two = program.rows()
        for position in ((2, 1), (1, 1)):
            tight = moved(program, two, position)
            for row, many, fine in ((x, 3, True), (one, 2 if position == (2, 1) else 1, True), (x, 1, position == (2, 1))):
                if fine:
                    result = lift(tight, row, many, "f", person="ann", start=1)
                    self.assertEqual(result.position(ann(4)), tight.position(row))
                    continue
                with self.assertRaises(NoRoom) as caught:
                    lift(tight, row, many, "f", person="ann", start=1)
                self.assertEqual(caught.exception.row, row)
        # What is out of reach comes ahead of what has no room.
        used = read_text("let x = 1\nout x\n")
        tight = moved(used, used.rows()[1], (1, 1))
        with self.assertRaises(OutOfReach):
            lift(tight, tight.rows()[0], 1, "f", person="ann", start=1)


class InlineTest(unittest.TestCase):
    def test_ids_places_names_and_meanings(self):
        program = read_text("let x = 5\ndef p(a, b) {\nlet y = a + x\nout y * b\n}\ndo p(x + 1, 2)\n")
        row = program.rows_of(at(0))[2]
        x, _, a, b, y = program.declarations()
        result = inline(program, row, person="ann", start=3)
        self.assertEqual(result.content(ann(3)), ("block", ann(4)))
        self.assertEqual((result.rows_of(at(0))[2], result.position(ann(3))), (ann(3), (3, 1)))
        self.assertEqual(result.rows_of(ann(4)), [ann(5), ann(9), ann(12), ann(16)])
        self.assertEqual([result.position(row) for row in result.rows_of(ann(4))], [(k, 1) for k in (1, 2, 3, 4)])
        self.assertEqual(result.content(ann(5)), ("let", ann(6), ("+", ("use", ann(7)), ("number", ann(8)))))
        self.assertEqual(result.content(ann(9)), ("let", ann(10), ("number", ann(11))))
        self.assertEqual(result.content(ann(12)), ("let", ann(13), ("+", ("use", ann(14)), ("use", ann(15)))))
        self.assertEqual(result.content(ann(16)), ("out", ("*", ("use", ann(17)), ("use", ann(18)))))
        self.assertEqual([result.meaning(ann(number)) for number in (7, 14, 15, 17, 18)], [x, ann(6), x, ann(13), ann(10)])
        self.assertEqual([result.name_of(ann(number)) for number in (6, 10, 13)], ["a", "b", "y"])
        self.assertEqual([result.value_of(ann(number)) for number in (8, 11)], [1, 2])
        self.assertEqual([result.name_of(thing) for thing in (a, b, y)], ["a", "b", "y"])

    def test_all_that_is_within(self):
        program = read_text(
            "def p() {\nif 1 {\nlet z = 2\nout z\n} else {\ndef q(c) {\nout c\n}\ndo q(3)\n}\nrepeat 2 {\nblock {\n}\n}\n}\ndo p()\n"
        )
        result = inline(program, program.rows_of(at(0))[1], person="ann", start=1)
        copied = [thing for thing in result.things() if thing[0] == "ann"]
        # New ids stand in reading order.
        self.assertEqual(copied, [ann(number) for number in range(1, len(copied) + 1)])
        body = program_text(program).split("{\n", 1)[1].rpartition("}\n")[0]
        self.assertEqual(program_text(result), "def p() {\n" + body + "}\nblock {\n" + body + "}\n")

    def test_a_procedure_that_calls_itself(self):
        program = read_text("def p(a) {\nif a {\ndo p(a - 1)\n}\nout a\n}\ndo p(2)\n")
        inner = program.rows()[2]
        p, a = program.declarations()
        result = inline(program, inner, person="ann", start=1)
        # The argument means the parameter itself, and the copy calls the procedure again.
        uses = [use for use in result.uses() if use[0] == "ann"]
        self.assertEqual([result.meaning(use) for use in uses], [a, ann(4), p, ann(4), ann(4)])
        self.assertEqual(
            program_text(result),
            "def p(a) {\n  if a {\n    block {\n      let a = a - 1\n      if a {\n        do p(a - 1)\n      }\n"
            "      out a\n    }\n  }\n  out a\n}\ndo p(2)\n",
        )
        run, again = Run(program, by="meaning"), Run(result, by="meaning")
        run.run()
        again.run()
        self.assertEqual((again.ended, again.outputs()), ("done", run.outputs()))

    def test_an_empty_procedure(self):
        program = read_text("def p() {\n}\ndo p()\n")
        result = inline(program, program.rows()[1], person="ann", start=1)
        self.assertEqual(program_text(result), "def p() {\n}\nblock {\n}\n")
        self.assertEqual(first_number(result, "ann"), 3)

    def test_the_parameters_of_two_calls(self):
        program = read_text("def p(a) {\nout a\n}\ndo p(1)\ndo p(2)\n")
        once = inline(program, program.rows_of(at(0))[1], person="ann", start=1)
        twice = inline(once, once.rows_of(at(0))[2], person="ann", start=first_number(once, "ann"))
        self.assertEqual(
            program_text(twice), "def p(a) {\n  out a\n}\nblock {\n  let a = 1\n  out a\n}\nblock {\n  let a = 2\n  out a\n}\n",
        )

    def test_errors(self):
        program = read_text("def p() {\n}\ndo p()\nout 1\n")
        definition, call, out = program.rows()
        for value in [*odd_values(), at(0), at(2)]:
            with self.assertRaises(UnknownId) as caught:
                inline(program, value, person="ann", start=1)
            self.assertEqual(caught.exception.thing, value)
        for row in (definition, out):
            with self.assertRaises(NotFit) as caught:
                inline(program, row, person="ann", start=1)
            self.assertEqual(caught.exception.row, row)
        for other in (definition, out):
            tight = moved(program, other, (2, 1))
            with self.assertRaises(NoRoom) as caught:
                inline(tight, call, person="ann", start=1)
            self.assertEqual(caught.exception.row, call)
            with self.assertRaises(NotFit):
                inline(tight, other, person="ann", start=1)


class HoistTest(unittest.TestCase):
    TEXT = "let x = 1\nblock {\nlet y = 2\nblock {\ndef p() {\nout x\n}\ndef q() {\nout y\n}\ndo p()\n}\n}\n"

    def test_to_each_block_above(self):
        program = read_text(self.TEXT)
        root, middle, inner = program.blocks()[:3]
        p, q = [row for row in program.rows() if program.content(row)[0] == "def"]
        result = hoist(program, p, root)
        self.assertEqual((result.rows_of(root)[0], result.position(p)), (p, (1, 2)))
        self.assertEqual(result.rows_of(inner), program.rows_of(inner)[1:])
        again = hoist(result, q, middle)
        self.assertEqual((again.rows_of(middle)[0], again.position(q)), (q, (1, 2)))
        self.assertEqual(program_text(again).split("\n")[0], "def p() {")
        self.assertEqual(set(result.things()), set(program.things()))

    def test_errors(self):
        program = read_text(self.TEXT)
        root, middle, inner, body = program.blocks()[:4]
        p, q = [row for row in program.rows() if program.content(row)[0] == "def"]
        for value in [*odd_values(), at(0), at(2)]:
            with self.assertRaises(UnknownId) as caught:
                hoist(program, value, None)
            self.assertEqual(caught.exception.thing, value)
        for value in [*odd_values(), p, at(2)]:
            # Unknown blocks come ahead of rows that do not fit.
            for row in (p, program.rows()[0]):
                with self.assertRaises(UnknownId) as caught:
                    hoist(program, row, value)
                self.assertEqual(caught.exception.thing, value)
        with self.assertRaises(NotFit) as caught:
            hoist(program, program.rows()[0], root)
        self.assertEqual(caught.exception.row, program.rows()[0])
        for block in (inner, body, program.blocks()[4]):
            with self.assertRaises(NotAbove) as caught:
                hoist(program, p, block)
            self.assertEqual(caught.exception.block, block)
        with self.assertRaises(OutOfReach) as caught:
            hoist(program, q, root)
        self.assertEqual(caught.exception.use, program.uses()[1])
        self.assertEqual(hoist(program, q, middle).rows_of(middle)[0], q)


class WrapTest(unittest.TestCase):
    def test_ids_and_places(self):
        program = read_text("out 1\nlet x = 2\nout x\nout 4\n")
        rows = program.rows()
        result = wrap(program, rows[1], 2, person="ann", start=5)
        self.assertEqual(result.content(ann(5)), ("block", ann(6)))
        self.assertEqual(result.rows_of(at(0)), [rows[0], ann(5), rows[3]])
        self.assertEqual(result.position(ann(5)), (2, 1))
        self.assertEqual(result.rows_of(ann(6)), rows[1:3])
        self.assertEqual([result.position(row) for row in rows[1:3]], [(1, 1), (2, 1)])
        self.assertEqual(unwrap(result, ann(5)).rows_of(at(0)), rows)

    def test_errors(self):
        program = read_text("out 1\nlet x = 2\nout x\nout 4\n")
        rows = program.rows()
        for value in [*odd_values(), at(0)]:
            with self.assertRaises(UnknownId) as caught:
                wrap(program, value, 99, person="ann", start=1)
            self.assertEqual(caught.exception.thing, value)
        with self.assertRaises(InvalidNumber) as caught:
            wrap(program, rows[1], 4, person="ann", start=1)
        self.assertEqual(caught.exception.value, 4)
        with self.assertRaises(OutOfReach) as caught:
            wrap(program, rows[0], 2, person="ann", start=1)
        self.assertEqual(caught.exception.use, program.uses()[0])
        tight = moved(program, rows[3], (3, 1))
        with self.assertRaises(NoRoom) as caught:
            wrap(tight, rows[2], 1, person="ann", start=1)
        self.assertEqual(caught.exception.row, rows[2])
        self.assertEqual(wrap(tight, rows[2], 2, person="ann", start=1).rows_of(ann(2)), rows[2:])


class UnwrapTest(unittest.TestCase):
    def test_places(self):
        program = read_text("out 1\nblock {\nout 2\nout 3\nout 4\n}\nout 5\n")
        one, block, two, three, four, five = program.rows()
        result = unwrap(program, block)
        self.assertEqual(result.rows_of(at(0)), [one, two, three, four, five])
        self.assertEqual([result.position(row) for row in (two, three, four)], [(2, 1), (5, 2), (11, 4)])
        self.assertNotIn(block, result.things())

    def test_at_the_end(self):
        program = read_text("block {\nout 2\nout 3\nout 4\n}\n")
        result = unwrap(program, program.rows()[0])
        self.assertEqual([result.position(row) for row in result.rows()], [(1, 1), (2, 1), (3, 1)])

    def test_an_empty_block(self):
        program = read_text("out 1\nblock {\n}\nout 5\n")
        one, block, five = program.rows()
        for other in (one, five):
            # No position is taken: there need not be room.
            self.assertEqual(len(unwrap(moved(program, other, (2, 1)), block)), 2)

    def test_errors(self):
        program = read_text("out 1\nblock {\nout 2\n}\nout 5\n")
        one, block, _, five = program.rows()
        for value in [*odd_values(), at(0)]:
            with self.assertRaises(UnknownId) as caught:
                unwrap(program, value)
            self.assertEqual(caught.exception.thing, value)
        with self.assertRaises(NotFit) as caught:
            unwrap(program, one)
        self.assertEqual(caught.exception.row, one)
        for other in (one, five):
            with self.assertRaises(NoRoom) as caught:
                unwrap(moved(program, other, (2, 1)), block)
            self.assertEqual(caught.exception.row, block)

    def test_names_may_become_wrong(self):
        program = read_text("let x = 1\nblock {\nlet x = 2\nout x\n}\nout x\n")
        result = unwrap(program, program.rows()[1])
        self.assertEqual([fault[0] for fault in faults(result)], ["doubled", "caught"])


class ReferenceTest(unittest.TestCase):
    def test_random_steps_one_behind_another(self):
        seen = {}
        for seed in range(160):
            program = random_program(seed, rows=16, depth=3, kinds=MANY_STEPS, owner=("", "ann", "bob")[seed % 3])
            if seed % 2:
                program = crowded(program, seed)
            editor = Editor(seed, 0.1, STEPS)
            for _ in range(14):
                start = first_number(program, "ann") + seed % 4
                edit = editor.edit(program, "ann", start)
                before = program.state()
                try:
                    wanted, _ = reference_edits.edited(program, edit, "ann", start)
                except reference_edits.Refused as refused:
                    with self.assertRaises((NamesError, Missing)) as caught:
                        step(program, edit, start)
                    self.assertEqual(told(caught.exception), refused.args)
                    seen[edit[0], refused.args[0]] = True
                else:
                    after = step(program, edit, start)
                    self.assertEqual(after.state(), wanted)
                    self.assertEqual(program.state(), before)
                    if len(after) < 100:
                        program = after
        self.assertEqual(sorted(seen), [
            ("hoist", "NotAbove"), ("hoist", "NotFit"), ("hoist", "OutOfReach"), ("hoist", "UnknownId"),
            ("inline", "NoRoom"), ("inline", "NotFit"), ("inline", "UnknownId"),
            ("lift", "InvalidNumber"), ("lift", "NoRoom"), ("lift", "OutOfReach"), ("lift", "UnknownId"),
            ("unwrap", "NoRoom"), ("unwrap", "NotFit"), ("unwrap", "UnknownId"),
            ("wrap", "InvalidNumber"), ("wrap", "NoRoom"), ("wrap", "OutOfReach"), ("wrap", "UnknownId"),
        ])


class RunsTest(unittest.TestCase):
    """What a run by meaning does stays."""

    def small(self, seed):
        program = named_by_chance(random_program(seed, rows=16, depth=3, kinds=MANY_STEPS), seed, "abc")
        root, rows, names, meanings, values = program.state()
        source = random.Random(seed)
        return Program(root, rows, names, meanings, {numeral: source.randint(0, 3) for numeral in values})

    def test_random_steps(self):
        compared = 0
        for seed in range(120):
            base = self.small(seed)
            program = base
            editor = Editor(seed, 0, STEPS)
            for _ in range(20):
                start = first_number(program, "ann")
                try:
                    after = step(program, editor.edit(program, "ann", start), start)
                except (NamesError, Missing):
                    continue
                program = after if len(after) < 90 else program
            for inputs in ([], [1, 2, 3, 4, 5], [3, 0, 2, 1]):
                runs = [Run(given, by="meaning", inputs=inputs) for given in (base, program)]
                for run in runs:
                    run.run(1500)
                if [run.ended for run in runs] == ["done", "done"]:
                    compared += 1
                    self.assertEqual(*[run.outputs() for run in runs])
                    self.assertEqual(*[run.left() for run in runs])
                self.assertNotIn("clash", [run.ended for run in runs])
                if runs[0].step_count < 200:
                    self.assertEqual(runs[1].ended, runs[0].ended)
        self.assertGreater(compared, 250)

    def test_procedures_that_call_themselves(self):
        program = read_text("def p(n) {\nlet k = n\nif n {\ndo p(n - 1)\nout k\nout n\n}\n}\ndo p(4)\n")
        wanted = [1, 1, 2, 2, 3, 3, 4, 4]
        for seed in range(30):
            editor = Editor(seed, 0, STEPS)
            changed = program
            for _ in range(8):
                start = first_number(changed, "ann")
                try:
                    changed = step(changed, editor.edit(changed, "ann", start), start)
                except (NamesError, Missing):
                    pass
            run = Run(changed, by="meaning")
            run.run(2000)
            self.assertEqual((run.ended, run.outputs()), ("done", wanted))


if __name__ == "__main__":
    unittest.main()
