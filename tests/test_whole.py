"""The whole program: several modules tell the same of one thing."""

import itertools
import random
import unittest

from piercednames.carried import WideTable
from piercednames.desk import Desk
from piercednames.drafts import edited
from piercednames.heals import heal
from piercednames.joining import joined
from piercednames.journals import journal_text
from piercednames.libraries import Library, Stack
from piercednames.making import make
from piercednames.meaning import found, is_right
from piercednames.merges import Merge
from piercednames.namings import count_namings, fewest_names, is_apart, nth_naming, number_of
from piercednames.nets import Net
from piercednames.parting import deal_cells, fewest_cells, parting
from piercednames.programs import alike
from piercednames.runs import Run
from piercednames.steps import first_number, wrap
from piercednames.stretches import Table
from piercednames.texts import read_text
from piercednames.writing import program_text
from tests.editing import drafted
from tests.reference import written
from tests.samples import MANY_CALLS, TreeMaker, right_programs
from tests.test_desk import seen
from tests.test_steps import at

LETTERS = list("abcdefghijklmnopqrstuvwxyz")
PEOPLE = ("ann", "bob", "cid")
WORDS = "rename rename put put put put value move turn lift inline hoist wrap unwrap drop".split()


def bases(many):
    return [read_text(program_text(program)) for program in right_programs(many, rows=12, spare=1)]


def rounds(desk, seed):
    """Does drafts, a merge and an end of it; tells the deeds of each call."""
    drafts = [drafted(desk.base, person, seed * 7 + k, 6, WORDS) for k, person in enumerate(PEOPLE)]
    calls = []
    for draft in drafts:
        calls.append([("draft", draft.person), *[("edit", draft.person, edit) for edit in draft.edits()]])
    random.Random(seed).shuffle(drafts)
    calls += [[("join", draft.person)] for draft in drafts]
    merge = Merge(desk.base, *[draft.net() for draft in drafts])
    for attribute in merge.argued():
        person = merge.whole_net().versions(attribute)[0][1][-1]
        merge.settle(attribute, person)
        calls.append([("settle", attribute, person)])
    if merge.faults():
        calls.append([("leave",)])
    else:
        calls.append([("accept",) if merge.is_right() else ("heal",)])
    for deeds in calls:
        desk.do(*deeds)
    return drafts, merge


def desk_on(base):
    desk = Desk()
    desk.do(("base", program_text(base)))
    return desk


class RoadsTest(unittest.TestCase):
    def test_one_program_by_whichever_road(self):
        ends = {"leave": 0, "accept": 0, "heal": 0}
        for seed, base in enumerate(bases(40)):
            desk = desk_on(base)
            self.assertEqual(desk.base, base)
            drafts, merge = rounds(desk, seed)
            self.one_by_one(base, drafts)
            ends[desk.journal().split("\n")[-2]] += 1
            if merge.faults():
                self.assertEqual(desk.base, base)
                continue
            result = joined(base, merge.net())
            self.assertEqual(merge.result(), result)
            if not merge.is_right():
                self.assertEqual(desk.base, heal(Table(result)).result().respaced())
                self.assertEqual(merge.heal().result().respaced(), desk.base)
            else:
                self.assertEqual(desk.base, result.respaced())
                self.assertTrue(alike(desk.base, result))
                self.assertTrue(alike(desk.base, read_text(program_text(result))))
        self.assertGreater(min(ends.values()), 3, ends)

    def one_by_one(self, base, drafts):
        for draft in drafts:
            program, number = base, first_number(base, draft.person)
            for edit in draft.edits():
                program, number = edited(program, edit, person=draft.person, start=number)
            self.assertEqual((program, number), (draft.result(), draft.next_number))
            self.assertEqual(joined(base, draft.net()), program)

    def test_all_bases_of_a_desk_tell_the_same(self):
        checked = 0
        for seed, base in enumerate(bases(12)):
            desk = desk_on(base)
            chain = [desk.base]
            for turn in range(3):
                rounds(desk, seed * 10 + turn)
                chain.append(desk.base)
            for program in chain:
                checked += 1
                self.told(program, desk, seed)
            for one, other in itertools.permutations(chain, 2):
                net = Net.between(one, other, "zoe")
                self.assertEqual(joined(one, net), other)
        self.assertGreater(checked, 40)

    def told(self, program, desk, seed):
        again = read_text(program_text(program))
        self.assertTrue(is_right(program) and alike(again, program))
        self.assertEqual([found(program, use) for use in program.uses()], [program.meaning(use) for use in program.uses()])
        table, wide = Table(program), WideTable(program)
        self.assertEqual((table.clashing(), heal(table).renames(), heal(table).kept()), ([], {}, program.declarations()))
        self.assertTrue(is_apart(table, program.names()))
        names = sorted({*program.names().values(), *LETTERS[:3]})
        number = number_of(table, names, program.names())
        self.assertEqual(nth_naming(table, names, number), program.names())
        self.assertLess(number, count_namings(table, names))
        library = Library("lib", program)
        at_root = [thing for thing in program.declarations() if program.block_of(thing) == program.root]
        self.assertEqual({name: thing for name, (thing, _) in library.exports().items()}, {program.name_of(d): d for d in at_root})
        self.assertEqual(Stack(library).stacked("").things()[0], at(0))
        self.runs(program, wide, again, seed)

    def runs(self, program, wide, again, seed):
        source = random.Random(seed)
        inputs = [source.randint(0, 3) for _ in range(4)]
        cells = deal_cells(program)
        outer = [thing for thing in wide.declarations()]
        self.assertEqual(len({cells[thing] for thing in outer}), fewest_cells(program))
        first = None
        for by, given in (("meaning", None), ("text", None), ("cells", cells), ("callers", None)):
            run = Run(program, by=by, inputs=inputs, cells=given)
            run.run(200)
            if by == "callers" and wide.clashing():
                self.assertIsNotNone(parting(program, by=by))
                continue
            self.assertIsNone(parting(program, by=by, cells=given))
            told = (run.outputs(), run.notes(), run.untrue(), run.ended, run.step_count, run.left())
            first = first or told
            self.assertEqual(told, first)
        other = Run(again, by="text", inputs=inputs)
        other.run(200)
        self.assertEqual((other.outputs(), other.ended, other.step_count), (first[0], first[3], first[4]))

    def test_a_base_healed_by_hand(self):
        for base in bases(20):
            desk = desk_on(base)
            edits = [("rename", thing, "a") for thing in base.declarations()]
            desk.do(("draft", "ann"), *[("edit", "ann", edit) for edit in edits], ("join", "ann"))
            wrong = desk.held_merge().result()
            self.assertEqual(wrong, base.renamed({thing: "a" for thing in base.declarations()}))
            desk.do(("heal",))
            self.assertEqual(desk.base, heal(Table(wrong)).result().respaced())
            self.assertEqual(desk("faults"), "0")
            self.assertEqual(desk("names"), str(fewest_names(Table(base))))


class UndoneTest(unittest.TestCase):
    def test_all_is_undone_and_done_again(self):
        for seed, base in enumerate(bases(10)):
            desk = Desk()
            states = [seen(desk)]
            desk.do(("base", program_text(base)))
            states.append(seen(desk))
            for turn in range(2):
                before = desk.twin()
                rounds(desk, seed * 10 + turn)
                # The same deeds, all in one call.
                text = desk.journal()[len(before.journal()):]
                states.extend(self.states_between(before, desk))
                self.assertEqual(before.journal() + text, desk.journal())
            self.assertEqual(desk.history(), (len(states) - 1, 0))
            for state in states[-2::-1]:
                desk.undo()
                self.assertEqual(seen(desk), state)
            for state in states[1:]:
                desk.redo()
                self.assertEqual(seen(desk), state)

    def states_between(self, before, desk):
        """The states behind each step that a desk has done since another one was its twin."""
        back = desk.twin()
        states = []
        while back.history()[0] > before.history()[0]:
            states.append(seen(back))
            back.undo()
        self.assertEqual(seen(back), seen(before))
        return states[::-1]

    def test_in_one_call_or_in_many(self):
        for seed, base in enumerate(bases(10)):
            desk = desk_on(base)
            rounds(desk, seed)
            replayed = Desk.replay(desk.journal())
            self.assertEqual((replayed, replayed.base), (desk, desk.base))
            self.assertEqual(seen(replayed), seen(desk))
            while replayed.history()[0]:
                replayed.undo()
            self.assertEqual((replayed, seen(replayed)), (Desk(), seen(Desk())))


class StacksTest(unittest.TestCase):
    """Libraries and a client are like one program, made as a tree, by a stack, or by wraps of rows."""

    def trees(self, seed):
        """The rows of two libraries and of a client that uses both, and names for all labels that are right."""
        maker = TreeMaker(seed, 14, 3, MANY_CALLS)
        parts = []
        variables, procedures = [], []
        for _ in range(2):
            maker.left = 5
            part = maker.rows([], [], 2)
            parts.append(part)
            variables += [row[1] for row in part if row[0] == "let"]
            procedures += [(row[1], len(row[2])) for row in part if row[0] == "def"]
        maker.left = 5
        parts.append(maker.rows(variables, procedures, 2))
        return parts

    def named(self, parts, seed):
        one, two, client = parts
        whole = make([*one, ("block", [*two, ("block", client)])])
        table = Table(whole)
        letters = LETTERS[:fewest_names(table) + seed % 2]
        naming = nth_naming(table, letters, random.Random(seed).randrange(count_namings(table, letters)))
        return whole, whole.renamed(naming), {whole.name_of(thing): naming[thing] for thing in naming}

    def test_by_three_roads(self):
        checked = 0
        for seed in range(150):
            parts = self.trees(seed)
            one, two, client = parts
            if not (one and two and client):
                continue
            checked += 1
            whole, tree, names = self.named(parts, seed)
            self.assertEqual(tree, make([*one, ("block", [*two, ("block", client)])], names=names))
            libraries = [Library(name, make(part, names=names)) for name, part in (("one", one), ("two", two))]
            stack = Stack(*libraries)
            self.assertTrue(alike(stack.stacked(written(client, names)), tree))
            flat = make([*one, *two, *client], names=names)
            rows = flat.rows_of(flat.root)
            inner = wrap(flat, rows[len(one) + len(two)], len(client), person="ann", start=1)
            nested = wrap(inner, rows[len(one)], len(two) + 1, person="ann", start=3)
            self.assertTrue(alike(nested, tree))
            self.assertTrue(is_right(tree))
            self.meanings(stack, written(client, names), tree, libraries)
        self.assertGreater(checked, 60)

    def meanings(self, stack, client, tree, libraries):
        blocks = [tree.root]
        for _ in libraries:
            blocks.append(tree.content(tree.rows_of(blocks[-1])[-1])[1])
        within = [use for use in tree.uses() if blocks[-1] in tree.path(tree.block_of(use))]
        for use, meaning in zip(within, stack.meanings(client), strict=True):
            home = tree.block_of(tree.meaning(use))
            if meaning is None:
                self.assertIn(blocks[-1], tree.path(home))
            else:
                self.assertEqual(home, blocks[[item.name for item in libraries].index(meaning[0])])
                self.assertEqual(stack.sees(tree.name_of(tree.meaning(use))), meaning)

    def test_by_a_desk(self):
        for seed in range(30):
            parts = self.trees(seed)
            _, tree, _ = self.named(parts, seed)
            desk = desk_on(tree)
            self.assertEqual(desk.base, tree)
            self.assertEqual(desk.journal(), journal_text([("base", program_text(tree))]))


if __name__ == "__main__":
    unittest.main()
