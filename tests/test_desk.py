import unittest

from piercednames.carried import WideTable
from piercednames.desk import Desk
from piercednames.drafts import Draft
from piercednames.errors import (
    Argued, BadJournal, BadText, Busy, Caught, Doubled, HasDraft, InvalidDeed, InvalidEdit, InvalidName, InvalidNumber, Lost,
    Missing, NamesError, NoDraft, NoMerge, NothingLeft, SamePerson, UnknownAttribute, UnknownId, UnknownPerson, Unsound,
)
from piercednames.journals import journal_text, read_journal
from piercednames.meaning import faults, is_right
from piercednames.merges import Merge
from piercednames.namings import count_namings, fewest_names
from piercednames.parting import fewest_cells
from piercednames.runs import Run
from piercednames.stretches import Table
from piercednames.texts import read_text
from piercednames.writing import program_text
from tests import reference_desk
from tests.reference_desk import Deeds, Model, ReferenceDesk
from tests.samples import odd_values
from tests.test_nets import odd_attributes
from tests.test_steps import ann, at, told

TEXT = "let x = 1\nblock {\nout x\n}\n"
RENAME = ("edit", "ann", ("rename", at(2), "y"))
LINES = ["names", "faults", "count 3", "alike", "cells", "drafts", "argued", "right", "out", "out 4 2"]


def desk_with(*deeds):
    desk = Desk()
    desk.do(*deeds)
    return desk


def seen(desk):
    """All that a desk tells of its state, but its history and log."""
    merge = desk.held_merge()
    drafts = [desk.draft(person) for person in desk.people()]
    return (
        desk.base.state(), desk.people(), [(draft.person, draft.edits(), draft.next_number, draft.result().state()) for draft in drafts],
        None if merge is None else (merge.people(), merge.settled(), repr(merge)), None if merge is None else merge.whole_net().attributes(),
        desk.journal(), len(desk), repr(desk), str(desk),
    )


class DeskCase(unittest.TestCase):
    def refused(self, desk, error, bears, *deeds):
        before = (seen(desk), desk.history(), desk.log())
        for act in (desk.tried, desk.do):
            with self.assertRaises(error) as caught:
                act(*deeds)
            self.assertEqual(told(caught.exception), (error.__name__, *bears))
            self.assertEqual((seen(desk), desk.history(), desk.log()), before)


class NewTest(DeskCase):
    def test_a_new_desk(self):
        desk = Desk()
        self.assertEqual(desk.base, read_text(""))
        self.assertEqual(desk.base.root, at(0))
        self.assertEqual((desk.people(), desk.held_merge(), desk.journal(), desk.history()), ([], None, "", (0, 0)))
        self.assertEqual((desk.log(), desk.steps, len(desk), repr(desk), str(desk)), ([], 300, 0, "Desk(0 deeds)", ""))
        self.assertTrue(desk)
        for act in (desk.undo, desk.redo):
            with self.assertRaises(NothingLeft):
                act()

    def test_the_example_of_the_document(self):
        desk = desk_with(("base", TEXT), ("draft", "ann"), RENAME, ("join", "ann"), ("accept",))
        told = [desk("names"), desk("out"), desk("right"), desk.history(), desk.journal()]
        self.assertEqual(told, [
            "1", "1", "error NoMerge", (1, 0),
            "base 4\nlet x = 1\nblock {\n  out x\n}\ndraft ann\nedit ann rename .2 y\njoin ann\naccept\n",
        ])


class DeedsTest(DeskCase):
    def test_bases(self):
        desk = desk_with(("base", "let x=1\nout  x"))
        self.assertEqual((desk.base, desk.journal()), (read_text("let x = 1\nout x\n"), "base 2\nlet x = 1\nout x\n"))
        desk.do(("base", ""))
        self.assertEqual((desk.base, len(desk)), (read_text(""), 2))
        self.refused(desk, BadText, [0, 4, "unknown"], ("base", "out x"))
        for value in odd_values():
            if not isinstance(value, str):
                self.refused(desk, BadText, [0, 0, "form"], ("base", value))
        desk.do(("draft", "ann"))
        for text in (TEXT, "out x", None):
            self.refused(desk, Busy, [], ("base", text))
        desk.do(("join", "ann"))
        self.refused(desk, Busy, [], ("base", TEXT))
        desk.do(("leave",), ("base", TEXT))

    def test_drafts(self):
        desk = desk_with(("base", TEXT), ("draft", "bob"), ("draft", "ann"))
        self.assertEqual(desk.people(), ["ann", "bob"])
        for value in odd_values():
            self.refused(desk, InvalidName, [value], ("draft", value))
            for word in ("close", "join"):
                self.refused(desk, NoDraft, [value], (word, value))
            self.refused(desk, NoDraft, [value], ("edit", value, None))
            with self.assertRaises(NoDraft) as caught:
                desk.draft(value)
            self.assertEqual(caught.exception.person, value)
        self.refused(desk, HasDraft, ["ann"], ("draft", "ann"))
        desk.do(("join", "ann"))
        self.refused(desk, SamePerson, ["ann"], ("draft", "ann"))
        self.refused(desk, NoDraft, ["ann"], ("close", "ann"))
        desk.do(("leave",), ("draft", "ann"), ("close", "bob"))
        self.assertEqual((desk.people(), desk.held_merge()), (["ann"], None))

    def test_edits(self):
        desk = desk_with(("base", TEXT), ("draft", "ann"))
        desk.do(RENAME, ("edit", "ann", ("put", at(0), None, ("let", "z", ("use", ann(2))))))
        draft = desk.draft("ann")
        self.assertEqual((draft.edits(), draft.next_number, len(draft)), ([RENAME[2], ("put", at(0), None, ("let", "z", ("use", ann(2))))], 4, 2))
        self.assertEqual(draft.base, desk.base)
        for value in odd_values():
            self.refused(desk, InvalidEdit, [0], RENAME, ("edit", "ann", value))
        self.refused(desk, UnknownId, [at(99)], ("edit", "ann", ("drop", at(99))))
        self.refused(desk, Lost, [at(7)], ("edit", "ann", ("drop", at(1))))
        self.refused(desk, NoDraft, ["bob"], ("edit", "bob", ("drop", at(99))))

    def test_settlements(self):
        desk = desk_with(("base", TEXT))
        for value in odd_attributes():
            self.refused(desk, NoMerge, [], ("settle", value, value))
        desk.do(("draft", "ann"), RENAME, ("draft", "bob"), ("edit", "bob", ("rename", at(2), "z")), ("join", "bob"), ("join", "ann"))
        name = ("name", at(2))
        for value in odd_attributes():
            self.refused(desk, UnknownAttribute, [value], ("settle", value, "zoe"))
        for value in [*odd_values(), "zoe"]:
            self.refused(desk, UnknownPerson, [value], ("settle", name, value))
        self.assertEqual((desk("argued"), desk("right")), ("1", "no"))
        self.refused(desk, Argued, [name], ("accept",))
        desk.do(("settle", name, "bob"))
        self.assertEqual((desk.held_merge().settled(), desk("argued"), desk("right")), ({name: "z"}, "0", "yes"))
        desk.do(("settle", name, "ann"), ("accept",))
        self.assertEqual(program_text(desk.base), "let y = 1\nblock {\n  out y\n}\n")
        self.assertTrue(desk.journal().endswith("join bob\njoin ann\nsettle name .2 bob\nsettle name .2 ann\naccept\n"))

    def test_accept(self):
        desk = desk_with(("base", TEXT))
        for word in ("accept", "heal", "leave"):
            self.refused(desk, NoMerge, [], (word,))
        desk.do(*[("draft", person) for person in ("dan", "cid", "bob", "ann")])
        for word in ("accept", "heal", "leave"):
            self.refused(desk, NoMerge, [], (word,))
        inner = desk.base.blocks()[1]
        desk.do(RENAME, ("edit", "bob", ("put", inner, None, ("let", "y", 0))), ("join", "ann"), ("join", "bob"))
        for word in ("accept", "heal"):
            self.refused(desk, HasDraft, ["cid"], (word,))
        desk.do(("close", "cid"), ("close", "dan"))
        self.refused(desk, Caught, [at(7), at(2), ("bob", 2), inner], ("accept",))
        self.assertEqual((desk("right"), desk("faults")), ("no", "0"))
        desk.do(("heal",))
        self.assertEqual(program_text(desk.base), "let y = 1\nblock {\n  let a = 0\n  out y\n}\n")
        self.assertEqual([desk.base.position(row) for row in desk.base.rows()], [(1, 1), (2, 1), (1, 1), (2, 1)])
        self.assertIsNone(desk.held_merge())
        # The things of bob are there, so new ones get higher numbers.
        desk.do(("draft", "bob"))
        self.assertEqual(desk.draft("bob").next_number, 4)

    def test_doubled_names_and_unsound_merges(self):
        desk = desk_with(("base", "let x = 1\nlet z = 2\n"), ("draft", "ann"), RENAME, ("draft", "bob"), ("edit", "bob", ("rename", at(5), "y")))
        desk.do(("join", "ann"), ("join", "bob"))
        self.refused(desk, Doubled, [at(2), at(5), at(0)], ("accept",))
        desk.do(("leave",), ("draft", "ann"), ("edit", "ann", ("drop", at(1))), ("draft", "bob"))
        desk.do(("edit", "bob", ("put", at(0), None, ("out", ("use", at(2))))), ("join", "ann"), ("join", "bob"))
        for word in ("accept", "heal"):
            self.refused(desk, Unsound, [("lost", ("bob", 2))], (word,))
        self.assertEqual(desk("right"), "no")

    def test_values_that_are_no_deeds(self):
        desk = desk_with(("base", TEXT))
        good = ("draft", "ann")
        wrong = [
            *odd_values(), "accept", ["accept"], ("Accept",), ("accept", None), ("heal", "ann"), ("leave", 1), ("base",), ("draft",),
            ("draft", "ann", "bob"), ("edit", "ann"), ("edit", "ann", RENAME[2], 1), ("settle", ("name", at(2))), ("settle", "name", at(2), "ann"),
            ("join",), ("close", "ann", 1), ("undo",), ("redo",), ("rename", at(2), "y"), (["accept"],), (("accept",),), [good],
        ]
        for value in wrong:
            self.refused(desk, InvalidDeed, [0], value)
            self.refused(desk, InvalidDeed, [2], ("draft", "Ann"), good, value, value)
            self.refused(desk, InvalidDeed, [1], good, value, good)

    def test_all_deeds_of_a_call_or_none(self):
        desk = desk_with(("base", TEXT))
        self.refused(desk, HasDraft, ["ann"], ("draft", "ann"), RENAME, ("draft", "ann"))
        self.refused(desk, NoMerge, [], ("draft", "ann"), RENAME, ("accept",))
        desk.do(("draft", "ann"), RENAME, ("join", "ann"))
        self.assertEqual((desk.history(), len(desk)), ((2, 0), 4))
        desk.do()
        self.assertEqual((desk.history(), len(desk)), ((2, 0), 4))


class HistoryTest(DeskCase):
    def test_undo_and_redo(self):
        desk = Desk()
        states = [seen(desk)]
        for deeds in ((("base", TEXT),), (("draft", "ann"), RENAME), (("join", "ann"),), (("accept",), ("draft", "ann"))):
            desk.do(*deeds)
            states.append(seen(desk))
        self.assertEqual(desk.history(), (4, 0))
        for left in (3, 2, 1, 0):
            desk.undo()
            self.assertEqual((seen(desk), desk.history()), (states[left], (left, 4 - left)))
        with self.assertRaises(NothingLeft):
            desk.undo()
        for done in (1, 2, 3, 4):
            # A call without deeds is no step.
            desk.do()
            desk.redo()
            self.assertEqual((seen(desk), desk.history()), (states[done], (done, 4 - done)))
        with self.assertRaises(NothingLeft):
            desk.redo()

    def test_another_step(self):
        desk = desk_with(("base", TEXT))
        desk.do(("draft", "ann"))
        desk.undo()
        # What is refused, asked or tried is no step.
        self.refused(desk, NoMerge, [], ("accept",))
        desk.ask("names")
        desk.tried(("draft", "bob"))
        desk.change_steps(7)
        self.assertEqual(desk.history(), (1, 1))
        desk.do(("draft", "bob"))
        self.assertEqual((desk.history(), desk.people()), ((2, 0), ["bob"]))
        with self.assertRaises(NothingLeft):
            desk.redo()

    def test_by_lines(self):
        desk = desk_with(("base", TEXT))
        self.assertEqual([desk(line) for line in ("undo", "undo", "redo", "redo", "out")], ["done", "error NothingLeft", "done", "error NothingLeft", "1"])
        self.assertEqual((desk.history(), desk.base), ((1, 0), read_text(TEXT)))


class AskTest(DeskCase):
    def test_each_line(self):
        desk = desk_with(("base", "let x = 1\ndef p() {\nout x\n}\nblock {\nlet x = 2\ndo p()\n}\nread x\nout x\nread x\nout x\n"))
        self.assertEqual(desk("names"), "2")
        self.assertEqual(desk("faults"), "0")
        self.assertEqual([desk(f"count {many}") for many in (1, 2, 3, 26)], [
            str(count_namings(Table(desk.base), list("abcdefghijklmnopqrstuvwxyz")[:many])) for many in (1, 2, 3, 26)
        ])
        self.assertEqual((desk("alike"), desk("cells")), ("no", str(fewest_cells(desk.base))))
        self.assertEqual([desk(line) for line in ("out", "out 5", "out 5 999999", "out 5 6 7")], ["1 0 0", "1 5 0", "1 5 999999", "1 5 6"])
        self.assertEqual(desk("drafts"), "none")
        desk.do(("draft", "bob"), ("draft", "ann"))
        self.assertEqual((desk("drafts"), desk("argued"), desk("right")), ("ann bob", "error NoMerge", "error NoMerge"))
        desk.do(("join", "bob"))
        self.assertEqual((desk("drafts"), desk("argued"), desk("right")), ("ann", "0", "yes"))
        self.assertEqual(desk_with(("base", TEXT))("alike"), "yes")

    def test_nothing(self):
        self.assertEqual([Desk()(line) for line in LINES], ["0", "0", "1", "yes", "0", "none", "error NoMerge", "error NoMerge", "nothing", "nothing"])

    def test_unknown_lines(self):
        desk = desk_with(("base", TEXT), ("draft", "ann"), ("join", "ann"))
        lines = [
            "", " ", "\n", "Names", "name", "names ", " names", "names\n", "names x", "names  ", "faults 1", "count", "count ", "count 0", "count 27",
            "count 01", "count x", "count -1", "count  3", "count 3 ", "count 3 4", "count 3\n", "count\n3", "alike?", "cells 1", "drafts ann", "argued x",
            "right right", "out ", "out  1", "out 1 ", "out 01", "out 00", "out 1000000", "out x", "out -1", "out 1,2", "out 1\n", "out\n", "\nout", "outs",
            "undo ", "undo 1", "redo redo", " redo", "undo\n", "accept", "base 0", "steps", "help", "count 1000000", "out 1 2 x", "out 1 + 1", "journal",
        ]
        for line in lines:
            self.assertEqual(desk.ask(line), "unknown", line)
        self.assertEqual(desk.log(), [(line, "unknown") for line in lines])

    def test_steps(self):
        desk = desk_with(("base", "repeat 100 {\nout 1\n}\n"))
        many = {}
        for steps in (1, 2, 3, 4, 300, 2000):
            desk.change_steps(steps)
            run = Run(desk.base, by="meaning")
            run.run(steps)
            many[steps] = len(run.outputs())
            self.assertEqual(desk("out"), " ".join(["1"] * many[steps]) or "nothing")
            self.assertEqual(desk.steps, steps)
        self.assertEqual((many[1], many[2], many[2000]), (0, 1, 100))
        desk.steps = 17
        self.assertEqual(desk.steps, 17)
        for value in [*odd_values(), 2001, "17"]:
            if value not in (1, 2) or isinstance(value, bool):
                with self.assertRaises(InvalidNumber) as caught:
                    desk.steps = value
                self.assertEqual(caught.exception.value, value)
                with self.assertRaises(InvalidNumber):
                    desk.change_steps(value)
        self.assertEqual((desk.steps, desk.history()), (17, (1, 0)))
        desk.undo()
        desk.redo()
        self.assertEqual((desk.steps, Desk().steps), (17, 300))

    def test_the_log(self):
        desk = desk_with(("base", TEXT))
        for ask in (desk.ask, desk):
            ask("names")
            ask("undo")
            ask("undo")
            ask("redo")
        wanted = [("names", "1"), ("undo", "done"), ("undo", "error NothingLeft"), ("redo", "done")] * 2
        self.assertEqual(desk.log(), wanted)
        desk.undo()
        desk.log().clear()
        self.assertEqual(desk.log(), wanted)


class TwinsTest(DeskCase):
    def full(self):
        desk = desk_with(("base", TEXT))
        desk.do(("draft", "ann"), RENAME)
        desk.do(("draft", "bob"), ("edit", "bob", ("rename", at(2), "z")), ("join", "bob"))
        desk.do(("draft", "cid"))
        desk.undo()
        desk.ask("names")
        desk.change_steps(5)
        return desk

    def test_drafts_and_merges_are_twins(self):
        desk = self.full()
        before = seen(desk)
        draft, merge = desk.draft("ann"), desk.held_merge()
        draft.edit(("put", at(0), None, ("out", 1)))
        merge.add_net(draft.net())
        merge.settle(("name", at(2)), "ann")
        desk.people().clear()
        self.assertEqual(seen(desk), before)
        self.assertEqual(desk.held_merge().people(), ["bob"])
        draft.undo()
        draft.undo()
        self.assertEqual(len(desk.draft("ann")), 1)

    def test_tried(self):
        desk = self.full()
        before = (seen(desk), desk.history(), desk.log(), desk.steps)
        deeds = (("edit", "ann", ("put", at(0), None, ("out", 1))), ("join", "ann"), ("settle", ("name", at(2)), "bob"), ("heal",))
        text = desk.tried(*deeds)
        self.assertEqual((seen(desk), desk.history(), desk.log(), desk.steps), before)
        self.assertEqual((desk.tried(), text), (desk.journal(), desk.journal() + journal_text(deeds)))
        desk.do(*deeds)
        self.assertEqual(desk.journal(), text)

    def test_twins(self):
        desk = self.full()
        twin = desk.twin()
        told = (seen(twin), twin.history(), twin.log(), twin.steps)
        self.assertEqual(told, (seen(desk), desk.history(), desk.log(), desk.steps))
        self.assertEqual(twin, desk)
        desk.redo()
        desk.do(("join", "ann"))
        desk.ask("out")
        desk.steps = 9
        self.assertEqual((seen(twin), twin.history(), twin.log(), twin.steps), told)
        after = (seen(desk), desk.history(), desk.log(), desk.steps)
        for _ in range(3):
            twin.undo()
        twin.ask("cells")
        twin.steps = 11
        self.assertEqual((seen(desk), desk.history(), desk.log(), desk.steps), after)

    def test_equality(self):
        desk = self.full()
        other = desk_with(("base", TEXT), ("draft", "ann"), RENAME)
        self.assertNotEqual(desk, other)
        other.do(("draft", "bob"), ("edit", "bob", ("rename", at(2), "z")))
        other.do(("join", "bob"))
        self.assertEqual(desk, other)
        self.assertNotEqual(desk.history(), other.history())
        for value in [*odd_values(), desk.journal(), Desk()]:
            self.assertNotEqual(desk, value)

    def test_what_is_passed_may_be_changed(self):
        deeds = [("base", TEXT), ("draft", "ann"), RENAME]
        desk = Desk()
        desk.do(*deeds)
        before = seen(desk)
        deeds.clear()
        desk.base.state()[2].clear()
        desk.base.names().clear()
        self.assertEqual(seen(desk), before)


class ReplayTest(DeskCase):
    def bad(self, text, line):
        with self.assertRaises(BadJournal) as caught:
            Desk.replay(text)
        self.assertEqual(caught.exception.line, line)

    def test_one_step_for_each_deed(self):
        desk = desk_with(("base", TEXT), ("draft", "ann"), RENAME)
        desk.do(("join", "ann"), ("accept",))
        other = Desk.replay(desk.journal())
        self.assertEqual((other, seen(other)), (desk, seen(desk)))
        self.assertEqual((other.history(), desk.history(), other.log(), other.steps), ((5, 0), (2, 0), [], 300))
        self.assertEqual(Desk.replay(""), Desk())

    def test_the_first_deed_that_is_refused_or_not_in_the_form(self):
        start = "base 2\nlet x = 1\nout x\ndraft ann\n"
        self.bad(start + "draft ann\nnothing\n", 4)
        self.bad(start + "nothing\ndraft ann\n", 4)
        self.bad(start + "accept\nx", 4)
        self.bad(start + "x", 4)
        self.bad(start + "edit ann rename .9 y\n", 4)
        self.bad(start + "edit bob rename .2 y\n", 4)
        self.bad(start + "close ann\nbase 1\nout x\n", 5)
        self.bad(start + "base 0\n", 4)
        self.bad("base 3\nout 1\n", 0)
        self.bad("accept\n", 0)
        self.bad("settle name .2 ann\n", 0)
        for value in odd_values():
            if not isinstance(value, str) or value != "":
                self.bad(value, 0)

    def test_lines_of_a_base_need_not_be_written_ones(self):
        desk = Desk.replay("base 3\nlet x=1\n\nout x+0\ndraft ann\n")
        self.assertEqual(desk.journal(), "base 2\nlet x = 1\nout x + 0\ndraft ann\n")


class ReferenceTest(DeskCase):
    """Random deeds, and the second account of desks."""

    def test_random_desks(self):
        done, errors = {}, {}
        for seed in range(80):
            desk, second, source = Desk(), ReferenceDesk(), Deeds(seed)
            for _ in range(40):
                self.turn(desk, second, source, done, errors)
            self.check(desk, second)
            replayed = Desk.replay(desk.journal())
            self.assertEqual((replayed, seen(replayed), replayed.history()), (desk, seen(desk), (len(desk), 0)))
        self.assertEqual(sorted(done), sorted(reference_desk.ITEMS))
        self.assertGreater(min(done.values()), 9, done)
        self.assertTrue({"Busy", "HasDraft", "NoDraft", "SamePerson", "NoMerge", "Argued", "NothingLeft"} <= set(errors), errors)
        self.assertTrue({"Caught", "Doubled"} & set(errors))

    def turn(self, desk, second, source, done, errors):
        roll = source.source.random()
        before = seen(desk)
        try:
            if roll < 0.08:
                act = desk.undo
                second.undo()
            elif roll < 0.14:
                act = desk.redo
                second.redo()
            else:
                deeds = [source.deed(second.model())]
                if roll < 0.3:
                    deeds.append(source.deed(second.model()))

                def act():
                    desk.do(*deeds)

                second.do(deeds)
                for deed in deeds:
                    done[deed[0]] = done.get(deed[0], 0) + 1
        except reference_desk.Refused as refused:
            errors[refused.args[0]] = True
            with self.assertRaises((NamesError, Missing, NothingLeft)) as caught:
                act()
            self.assertEqual(told(caught.exception), refused.args)
            self.assertEqual(seen(desk), before)
            return
        act()
        self.assertEqual(desk.history(), (len(second.done), len(second.undone)))
        self.assertEqual(desk.journal(), journal_text(second.deeds()))

    def check(self, desk, second):
        model = second.model()
        self.assertEqual(desk.base, model.base)
        self.assertTrue(is_right(desk.base))
        self.assertEqual(desk.people(), sorted(model.edits))
        for person in desk.people():
            draft, other = desk.draft(person), model.draft(person)
            self.assertEqual((draft.edits(), draft.result(), draft.next_number), (other.edits(), other.result(), other.next_number))
            self.assertIsInstance(draft, Draft)
        merge = desk.held_merge()
        self.assertEqual(merge is None, model.nets is None)
        if merge is not None:
            self.assertIsInstance(merge, Merge)
            self.assertEqual((merge.whole_net(), merge.net()), (model.whole(), model.net()))
            self.assertEqual((desk("argued"), desk("right")), (str(len(model.net().argued())), "yes" if merge.is_right() else "no"))
        self.lines(desk)

    def lines(self, desk):
        base = desk.base
        run = Run(base, by="meaning", inputs=[3, 1, 2])
        run.run(300)
        wanted = {
            "names": str(fewest_names(Table(base))), "faults": str(len(faults(base))), "cells": str(fewest_cells(base)),
            "count 4": str(count_namings(Table(base), ["a", "b", "c", "d"])), "alike": "no" if WideTable(base).clashing() else "yes",
            "drafts": " ".join(desk.people()) or "none", "out 3 1 2": " ".join(map(str, run.outputs())) or "nothing",
        }
        self.assertEqual({line: desk(line) for line in wanted}, wanted)

    def test_told_states_are_those_of_the_deeds(self):
        desk = desk_with(("base", TEXT), ("draft", "ann"), RENAME, ("join", "ann"), ("draft", "bob"))
        model = Model([deed for _, deed in read_journal(desk.journal())])
        self.assertEqual((desk.base, desk.people(), desk.held_merge().net()), (model.base, ["bob"], model.net()))


if __name__ == "__main__":
    unittest.main()
