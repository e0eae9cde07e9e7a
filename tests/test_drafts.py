import unittest

from piercednames.drafts import Draft, edited
from piercednames.errors import (
    InvalidEdit, InvalidName, InvalidNumber, Lost, Misused, Missing, NamesError, NoRoom, NotAbove, NotFit, NothingLeft,
    OutOfReach, Ring, UnknownId,
)
from piercednames.making import make
from piercednames.nets import Net
from piercednames.steps import first_number, hoist, inline, lift, unwrap, wrap
from piercednames.texts import read_text
from piercednames.words import is_name
from piercednames.writing import program_text
from tests import reference_edits
from tests.editing import Editor, crowded, drafted
from tests.samples import odd_values, random_program
from tests.test_steps import MANY_STEPS, moved, told

TEXT = "let x = 1\ndef p(a) {\nout a + x\n}\nblock {\nlet y = 2\nout y\ndo p(y)\n}\n"


def at(number):
    return ("", number)


def ann(number):
    return ("ann", number)


def named(program):
    """The things of a program by plain words."""
    found = {program.name_of(thing): thing for thing in program.declarations()}
    for row in program.rows():
        found.setdefault(program.content(row)[0] + " row", row)
    return found


class DraftCase(unittest.TestCase):
    def refused(self, draft, error, bears, *edits):
        before = (draft.result(), draft.next_number, draft.edits())
        with self.assertRaises(error) as caught:
            draft.edit(*edits)
        self.assertEqual(told(caught.exception), (error.__name__, *bears))
        self.assertIs(draft.result(), before[0])
        self.assertEqual((draft.next_number, draft.edits()), before[1:])
        if len(edits) == 1:
            with self.assertRaises(error) as caught:
                edited(draft.result(), edits[0], person=draft.person, start=draft.next_number)
            self.assertEqual(told(caught.exception), (error.__name__, *bears))


class MakingTest(DraftCase):
    def test_a_new_draft(self):
        base = read_text(TEXT)
        draft = Draft(base, "ann")
        self.assertIs(draft.base, base)
        self.assertEqual((draft.person, draft.next_number, draft.edits(), len(draft)), ("ann", 1, [], 0))
        self.assertEqual((draft.result(), repr(draft)), (base, "Draft(ann, 0 edits)"))
        self.assertEqual((draft.net().people(), draft.net().attributes()), (["ann"], []))
        self.assertTrue(draft)
        with self.assertRaises(NothingLeft):
            draft.undo()

    def test_names(self):
        for value in odd_values():
            with self.assertRaises(InvalidName) as caught:
                Draft(read_text(""), value)
            self.assertEqual(caught.exception.value, value)
            self.assertFalse(is_name(value))

    def test_a_person_who_owns_things_of_the_base(self):
        base = read_text("out 1\n", owner="ann")
        draft = Draft(base, "ann")
        self.assertEqual(draft.next_number, 3)
        draft.edit(("put", ann(0), None, ("out", 2)))
        self.assertEqual((draft.result().rows(), draft.next_number), ([ann(3), ann(1)], 5))
        self.assertEqual(Draft(base, "bob").next_number, 1)


class PutTest(DraftCase):
    def put(self, text, sketch, wanted, **given):
        program = read_text(text)
        draft = Draft(program, "ann")
        draft.edit(("put", given.get("block", at(0)), given.get("after"), sketch))
        self.assertEqual(program_text(draft.result()), wanted)
        return draft

    def test_all_sketches(self):
        x = at(2)
        text = "let x = 1\n"
        for sketch, line, things in (
            (("let", "y", ("+", ("use", x), 3)), "let y = x + 3", 4), (("set", x, 7), "set x = 7", 3),
            (("out", ("use", x)), "out x", 2), (("read", x), "read x", 2),
            (("def", "f", ("a", "b")), "def f(a, b) {\n}", 5), (("if", ("use", x)), "if x {\n}", 4),
            (("repeat", ("*", 2, 3)), "repeat 2 * 3 {\n}", 4), (("block",), "block {\n}", 2),
        ):
            draft = self.put(text, sketch, line + "\nlet x = 1\n")
            self.assertEqual(draft.next_number, 1 + things)
            own = [thing for thing in draft.result().things() if thing[0] == "ann"]
            # New ids stand in reading order.
            self.assertEqual(own, [ann(number) for number in range(1, 1 + things)])

    def test_a_call(self):
        draft = self.put("def f(a, b) {\n}\n", ("do", at(2), (1, 2)), "do f(1, 2)\ndef f(a, b) {\n}\n")
        self.assertEqual(draft.result().meaning(ann(2)), at(2))

    def test_its_own_declaration(self):
        draft = self.put("", ("let", "x", ("use", ann(2))), "let x = x\n")
        self.assertEqual(draft.result().meaning(ann(3)), ann(2))
        self.refused(draft, UnknownId, [ann(7)], ("put", at(0), None, ("let", "x", ("use", ann(7)))))
        self.refused(draft, UnknownId, [ann(5)], ("put", at(0), None, ("out", ("use", ann(5)))))
        self.refused(draft, UnknownId, [ann(5)], ("put", at(0), None, ("set", ann(5), 1)))

    def test_places(self):
        draft = Draft(read_text("out 1\nout 2\n"), "ann")
        first, second = draft.result().rows()
        for after, position in ((first, (3, 2)), (second, (3, 1)), (None, (1, 2)), (first, (5, 4))):
            row = ann(draft.next_number)
            draft.edit(("put", at(0), after, ("block",)))
            self.assertEqual(draft.result().position(row), position)
        draft.edit(("put", ann(2), None, ("out", 3)))
        self.assertEqual(draft.result().position(ann(9)), (1, 1))

    def test_unknown_ids(self):
        program = read_text(TEXT)
        draft = Draft(program, "ann")
        known = named(program)
        inner = program.blocks()[2]
        for edit, thing in (
            (("put", at(1), None, ("out", 1)), at(1)), (("put", at(99), at(98), ("out", 1)), at(99)),
            (("put", inner, at(1), ("out", ("use", at(97)))), at(1)), (("put", at(0), inner, ("block",)), inner),
            (("put", at(0), None, ("out", ("+", ("use", at(97)), ("use", at(96))))), at(97)),
            (("put", at(0), None, ("set", at(97), ("use", at(96)))), at(97)),
            (("put", at(0), None, ("set", known["x"], ("use", at(96)))), at(96)),
            (("put", at(0), None, ("read", inner)), inner), (("put", at(0), None, ("do", at(0), ())), at(0)),
            (("put", at(0), None, ("do", known["p"], (1, ("use", at(1))))), at(1)),
            (("put", at(0), None, ("let", "z", ("use", ("bob", 2)))), ("bob", 2)),
        ):
            self.refused(draft, UnknownId, [thing], edit)

    def test_misused_and_out_of_reach(self):
        program = read_text(TEXT)
        draft = Draft(program, "ann")
        known = named(program)
        p, x, y, a = known["p"], known["x"], known["y"], known["a"]
        for sketch, use in (
            (("out", ("use", p)), 2), (("set", p, 1), 2), (("read", p), 2), (("do", p, ()), 2), (("do", x, ()), 2),
            (("do", p, (1, 2)), 2), (("do", p, (("use", p),)), 3), (("out", ("+", ("use", y), ("use", p))), 3),
            (("let", "z", ("use", p)), 3),
        ):
            self.refused(draft, Misused, [ann(use)], ("put", at(0), None, sketch))
        for sketch, use in (
            (("out", ("use", y)), 2), (("set", a, 1), 2), (("out", ("+", ("use", x), ("use", a))), 3),
            (("do", p, (("use", y),)), 3),
        ):
            self.refused(draft, OutOfReach, [ann(use)], ("put", at(0), None, sketch))

    def test_no_room(self):
        program = read_text("out 1\nout 2\nlet x = 3\n")
        first, second, third = program.rows()
        draft = Draft(moved(program, second, (1, 1)), "ann")
        self.refused(draft, NoRoom, [first], ("put", at(0), first, ("out", 1)))
        self.refused(draft, Misused, [ann(2)], ("put", at(0), first, ("do", at(6), ())))
        inside = Draft(moved(read_text("out 1\nblock {\nlet x = 3\n}\n"), ("", 3), (1, 1)), "ann")
        self.refused(inside, OutOfReach, [ann(2)], ("put", at(0), ("", 1), ("out", ("use", ("", 6)))))
        draft.edit(("put", at(0), second, ("out", 1)), ("put", at(0), None, ("out", 1)), ("put", at(0), third, ("out", 1)))
        self.assertEqual(draft.result().rows(), [ann(3), first, second, ann(1), third, ann(5)])


class ChangesTest(DraftCase):
    def test_rename(self):
        draft = Draft(read_text(TEXT), "ann")
        known = named(draft.base)
        draft.edit(("rename", known["y"], "x"), ("rename", known["p"], "x"))
        self.assertEqual([draft.result().name_of(known[name]) for name in ("x", "y", "p")], ["x"] * 3)
        for thing in (at(0), at(1), at(99), draft.base.uses()[0]):
            self.refused(draft, UnknownId, [thing], ("rename", thing, "x"))

    def test_values(self):
        draft = Draft(read_text(TEXT), "ann")
        numeral = draft.base.numerals()[0]
        draft.edit(("value", numeral, 999999))
        self.assertEqual(draft.result().value_of(numeral), 999999)
        for thing in (at(0), at(1), at(2), at(99)):
            self.refused(draft, UnknownId, [thing], ("value", thing, 0))

    def test_turns(self):
        draft = Draft(read_text("let x = 1\nlet y = x\nblock {\nlet z = 1\n}\ndef p() {\n}\ndef q() {\n}\ndo p()\n"), "ann")
        known = named(draft.base)
        use, call = draft.base.uses()
        draft.edit(("turn", use, known["y"]), ("turn", call, known["q"]))
        self.assertEqual([draft.result().meaning(thing) for thing in (use, call)], [known["y"], known["q"]])
        self.refused(draft, UnknownId, [at(1)], ("turn", at(1), at(0)))
        self.refused(draft, UnknownId, [at(0)], ("turn", use, at(0)))
        self.refused(draft, Misused, [use], ("turn", use, known["p"]))
        self.refused(draft, Misused, [call], ("turn", call, known["x"]))
        self.refused(draft, OutOfReach, [use], ("turn", use, known["z"]))

    def test_drops(self):
        draft = Draft(read_text(TEXT), "ann")
        known = named(draft.base)
        x, p, block = [draft.base.rows_of(at(0))[k] for k in range(3)]
        uses = draft.base.uses()
        self.refused(draft, UnknownId, [at(0)], ("drop", at(0)))
        self.refused(draft, Lost, [uses[1]], ("drop", x))
        self.refused(draft, Lost, [uses[3]], ("drop", p))
        self.refused(draft, Lost, [uses[2]], ("drop", draft.base.row_of(known["y"])))
        draft.edit(("drop", block))
        self.assertEqual(program_text(draft.result()), "let x = 1\ndef p(a) {\n  out a + x\n}\n")
        draft.edit(("drop", p), ("drop", x))
        self.assertEqual((len(draft.result()), draft.result().things()), (0, [at(0)]))

    def test_moves(self):
        draft = Draft(read_text(TEXT), "ann")
        x, p, block = draft.base.rows_of(at(0))
        inner, body = draft.base.content(block)[1], draft.base.content(p)[3]
        y, out, call = draft.base.rows_of(inner)
        draft.edit(("move", out, inner, None), ("move", p, at(0), block))
        self.assertEqual(draft.result().rows_of(inner), [out, y, call])
        self.assertEqual(draft.result().rows_of(at(0)), [x, block, p])
        self.assertEqual([draft.result().position(row) for row in (out, p)], [(1, 2), (4, 1)])
        # The moved row itself is neither ahead nor behind.
        draft.edit(("move", out, inner, y))
        self.assertEqual(draft.result().position(out), (2, 1))
        self.refused(draft, UnknownId, [inner], ("move", inner, at(99), at(98)))
        self.refused(draft, UnknownId, [at(99)], ("move", out, at(99), at(98)))
        self.refused(draft, UnknownId, [x], ("move", out, inner, x))
        self.refused(draft, UnknownId, [out], ("move", out, inner, out))
        self.refused(draft, Ring, [block], ("move", block, inner, None))
        self.refused(draft, Ring, [block], ("move", block, inner, y))
        self.refused(draft, OutOfReach, [draft.base.uses()[2]], ("move", out, at(0), x))

    def test_moves_into_a_row_within(self):
        draft = Draft(read_text("block {\nif 1 {\n} else {\nrepeat 2 {\n}\n}\n}\nout 1\n"), "ann")
        outer, branch, loop, out = draft.base.rows()
        blocks = draft.base.blocks()
        for row, block in ((outer, blocks[1]), (outer, blocks[3]), (outer, blocks[4]), (branch, blocks[2]), (branch, blocks[4])):
            self.refused(draft, Ring, [row], ("move", row, block, None))
        draft.edit(("move", out, blocks[4], None), ("move", loop, blocks[2], None))
        self.assertEqual(program_text(draft.result()), "block {\n  if 1 {\n    repeat 2 {\n      out 1\n    }\n  }\n}\n")

    def test_no_room_for_a_move(self):
        program = read_text("out 1\nout 2\nout 3\nblock {\nlet x = 4\nout x\n}\n")
        one, two, three, block, let, out = program.rows()
        draft = Draft(moved(program, two, (1, 1)), "ann")
        self.refused(draft, NoRoom, [one], ("move", three, at(0), one))
        # What is out of reach comes ahead.
        self.refused(draft, OutOfReach, [program.uses()[0]], ("move", out, at(0), one))
        # Without the moved row there is room.
        draft.edit(("move", two, at(0), one))
        self.assertEqual(draft.result().position(two), (2, 1))

    def test_out_of_reach_in_the_old_order(self):
        program = make([("block", []), ("block", [("let", "k", 2), ("let", "y", "k"), ("out", "y")]), ("block", [])])
        before, middle, behind = [program.content(row)[1] for row in program.rows_of(at(0))]
        draft = Draft(program, "ann")
        k, y, _ = program.rows_of(middle)
        of_k, of_y = program.uses()
        # Behind the edit the use of y would come ahead.
        self.refused(draft, OutOfReach, [of_k], ("move", y, behind, None))
        draft.edit(("move", program.row_of(of_y), middle, None))
        self.assertEqual(draft.result().uses(), [of_y, of_k])
        self.refused(draft, OutOfReach, [of_y], ("move", y, before, None))


class StepsTest(DraftCase):
    def test_errors(self):
        draft = Draft(read_text(TEXT), "ann")
        x, p, block = draft.base.rows_of(at(0))
        inner = draft.base.content(block)[1]
        self.refused(draft, UnknownId, [at(2)], ("lift", at(2), 120, "f"))
        self.refused(draft, InvalidNumber, [4], ("lift", x, 4, "f"))
        self.refused(draft, OutOfReach, [draft.base.uses()[1]], ("lift", x, 1, "f"))
        self.refused(draft, InvalidNumber, [120], ("wrap", block, 120))
        self.refused(draft, OutOfReach, [draft.base.uses()[1]], ("wrap", x, 1))
        self.refused(draft, NotFit, [x], ("inline", x))
        self.refused(draft, NotFit, [p], ("unwrap", p))
        self.refused(draft, NotFit, [block], ("hoist", block, inner))
        self.refused(draft, NotAbove, [inner], ("hoist", p, inner))
        self.refused(draft, NotAbove, [at(0)], ("hoist", p, at(0)))

    def test_ids_go_on(self):
        draft = Draft(read_text(TEXT), "ann")
        x, p, block = draft.base.rows_of(at(0))
        draft.edit(("lift", block, 1, "f"))
        self.assertEqual(draft.next_number, 6)
        draft.edit(("wrap", ann(4), 1))
        self.assertEqual(draft.next_number, 8)
        draft.edit(("inline", ann(4)))
        self.assertEqual((draft.next_number, draft.result().content(ann(8))), (10 + 10, ("block", ann(9))))
        draft.edit(("unwrap", ann(6)))
        self.assertEqual(draft.next_number, 20)

    def test_as_the_functions_do(self):
        done = 0
        for seed in range(60):
            program = random_program(seed, rows=16, depth=3, kinds=MANY_STEPS)
            editor = Editor(seed, 0.02, ["lift", "inline", "hoist", "wrap", "unwrap"])
            start = first_number(program, "ann")
            for _ in range(6):
                edit = editor.edit(program, "ann", start)
                draft = Draft(program, "ann")
                try:
                    draft.edit(edit)
                except (NamesError, Missing):
                    continue
                done += 1
                word, row, *rest = edit
                keys = {} if word in ("hoist", "unwrap") else {"person": "ann", "start": start}
                function = {"lift": lift, "inline": inline, "hoist": hoist, "wrap": wrap, "unwrap": unwrap}[word]
                after = function(program, row, *rest, **keys)
                self.assertEqual(draft.result(), after)
                self.assertEqual(edited(program, edit, person="ann", start=start), (after, draft.next_number))
        self.assertGreater(done, 100)


class CallsTest(DraftCase):
    def test_all_edits_of_a_call_or_none(self):
        draft = Draft(read_text(TEXT), "ann")
        known = named(draft.base)
        good = ("rename", known["x"], "z")
        self.refused(draft, UnknownId, [at(99)], good, ("drop", at(99)))
        self.refused(draft, UnknownId, [ann(9)], ("put", at(0), None, ("block",)), ("put", ann(2), None, ("block",)), ("drop", ann(9)))
        draft.edit(good, ("put", at(0), None, ("block",)), ("put", ann(2), None, ("let", "k", ("use", known["x"]))))
        self.assertEqual((len(draft), draft.next_number), (3, 6))
        draft.edit()
        self.assertEqual(len(draft), 3)

    def test_values_that_are_no_edits_come_ahead(self):
        draft = Draft(read_text(TEXT), "ann")
        known = named(draft.base)
        good = ("rename", known["x"], "z")
        for value in [*odd_values(), ("rename", known["x"], "let"), ("put", at(0), None, ["block"]), ["drop", at(1)], good[:2]]:
            self.refused(draft, InvalidEdit, [0], value)
            self.refused(draft, InvalidEdit, [1], ("drop", at(99)), value, value)
            self.refused(draft, InvalidEdit, [2], good, good, value)

    def test_numbers_are_not_used_twice(self):
        draft = Draft(read_text(""), "ann")
        draft.edit(("put", at(0), None, ("out", 1)), ("drop", ann(1)), ("put", at(0), None, ("out", 1)))
        self.assertEqual((draft.result().rows(), draft.next_number), ([ann(3)], 5))
        draft.edit(("drop", ann(3)))
        self.assertEqual((draft.result(), draft.next_number), (draft.base, 5))
        draft.undo()
        draft.undo()
        self.assertEqual((draft.result().rows(), draft.next_number), ([], 3))
        draft.undo()
        draft.undo()
        self.assertEqual((draft.next_number, len(draft)), (1, 0))

    def test_edited_from_any_number(self):
        program = read_text("out 1\n")
        result, behind = edited(program, ("put", at(0), None, ("let", "x", 3)), person="ann", start=40)
        self.assertEqual((result.content(ann(40)), behind), (("let", ann(41), ("number", ann(42))), 43))
        for edit in (("drop", at(1)), ("value", at(2), 3), ("move", at(1), at(0), None)):
            for start in (0, 1, 17):
                self.assertEqual(edited(program, edit, person="ann", start=start)[1], start)
        self.assertEqual(edited(program, ("wrap", at(1), 1), person="ann", start=0)[1], 2)

    def test_told_lists_that_are_changed(self):
        draft = Draft(read_text(TEXT), "ann")
        draft.edit(("rename", at(2), "z"))
        draft.edits().clear()
        draft.result().rows().clear()
        draft.result().state()[2].clear()
        self.assertEqual((draft.edits(), draft.result().name_of(at(2))), ([("rename", at(2), "z")], "z"))
        self.assertEqual(repr(draft), "Draft(ann, 1 edits)")


class ReferenceTest(DraftCase):
    def test_random_drafts(self):
        done = 0
        for seed in range(120):
            base = random_program(seed, rows=16, depth=3, kinds=MANY_STEPS, owner=("", "ann", "bob")[seed % 3])
            if seed % 2:
                base = crowded(base, seed)
            draft = Draft(base, "ann")
            self.assertEqual(draft.next_number, first_number(base, "ann"))
            editor = Editor(seed, 0.08)
            states = [(base.state(), draft.next_number)]
            for _ in range(25):
                edit = editor.edit(draft.result(), "ann", draft.next_number)
                try:
                    state, number = reference_edits.edited(draft.result(), edit, "ann", draft.next_number)
                except reference_edits.Refused as refused:
                    with self.assertRaises((NamesError, Missing)) as caught:
                        draft.edit(edit)
                    self.assertEqual(told(caught.exception), refused.args)
                    continue
                both = edited(draft.result(), edit, person="ann", start=draft.next_number)
                draft.edit(edit)
                self.assertEqual((draft.result().state(), draft.next_number), (state, number))
                self.assertEqual(both, (draft.result(), number))
                states.append((state, number))
                if len(draft.result()) > 90:
                    draft.undo()
                    states.pop()
            done += len(draft)
            self.assertEqual(draft.net(), Net.between(base, draft.result(), "ann"))
            self.undone(draft, states)
        self.assertGreater(done, 1200)

    def undone(self, draft, states):
        """Takes all edits back one by one; a twin does not notice."""
        twin = draft.twin()
        edits = draft.edits()
        while states:
            self.assertEqual((draft.result().state(), draft.next_number, len(draft)), (*states.pop(), len(states)))
            self.assertEqual(draft.edits(), edits[:len(draft)])
            if states:
                draft.undo()
        with self.assertRaises(NothingLeft):
            draft.undo()
        draft.edit(*edits)
        self.assertEqual((twin.result(), twin.next_number, twin.edits()), (draft.result(), draft.next_number, edits))

    def test_twins_are_independent(self):
        for seed in range(10):
            draft = drafted(random_program(seed), "ann", seed, 8)
            twin = draft.twin()
            result, number = draft.result(), draft.next_number
            twin.edit(("put", at(0), None, ("out", 1)))
            self.assertEqual((draft.result(), draft.next_number), (result, number))
            draft.edit(("put", at(0), None, ("out", 2)))
            self.assertNotEqual(draft.result(), twin.result())
            self.assertEqual(draft.next_number, twin.next_number)
            self.assertEqual(len(draft), len(twin))
            while len(draft):
                draft.undo()
            self.assertEqual(twin.person, "ann")
            self.assertGreater(len(twin), 0)


if __name__ == "__main__":
    unittest.main()
