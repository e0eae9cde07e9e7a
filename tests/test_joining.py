import itertools
import random
import unittest

from piercednames.drafts import Draft
from piercednames.errors import Argued, InvalidName, Unsound
from piercednames.joining import joined, net_back, structure_faults
from piercednames.meaning import is_right
from piercednames.nets import Net
from piercednames.programs import Program
from piercednames.stretches import Table
from piercednames.texts import read_text
from piercednames.writing import program_text
from tests import reference_nets
from tests.editing import drafted
from tests.samples import named_by_chance, odd_values, random_program
from tests.test_nets import net_of, three_drafts
from tests.test_steps import MANY_STEPS, ann, at

BLOCKS = "block {\n}\nblock {\n}\nblock {\n}\nout 1\n"
# Rows that are moved often into others.
MOVES = "move move move move move put drop".split()


def inner(program, row):
    return program.content(row)[1]


class FaultsTest(unittest.TestCase):
    def test_rings(self):
        base = read_text(BLOCKS)
        one, two, three, out = base.rows()
        into = {row: inner(base, row) for row in (one, two, three)}
        ann_net = net_of(base, "ann", ("move", one, into[two], None))
        bob_net = net_of(base, "bob", ("move", two, into[one], None))
        self.assertEqual(structure_faults(base, ann_net + bob_net), [("ring", (one, two))])
        cid_net = net_of(base, "cid", ("move", two, into[three], None))
        dan_net = net_of(base, "dan", ("move", three, into[one], None))
        self.assertEqual(structure_faults(base, ann_net + cid_net + dan_net), [("ring", (one, two, three))])
        # With a ring there are no other faults.
        lost = net_of(base, "eve", ("move", out, into[one], None))
        self.assertEqual(structure_faults(base, lost + bob_net + ann_net), [("ring", (one, two))])
        with self.assertRaises(Unsound) as caught:
            joined(base, ann_net + bob_net)
        self.assertEqual(caught.exception.fault, ("ring", (one, two)))

    def test_two_rings_in_the_order_of_their_least_rows(self):
        base = read_text("block {\n}\n" * 5)
        rows = base.rows()
        pairs = [(0, 3), (3, 0), (4, 2), (2, 4)]
        nets = [
            net_of(base, person, ("move", rows[row], inner(base, rows[block]), None))
            for person, (row, block) in zip(("ann", "bob", "cid", "dan"), pairs)
        ]
        whole = nets[3] + nets[1] + nets[2] + nets[0]
        self.assertEqual(structure_faults(base, whole), [("ring", (rows[0], rows[3])), ("ring", (rows[2], rows[4]))])

    def test_a_ring_of_rows_that_are_gone_is_none(self):
        base = read_text(BLOCKS)
        one, two, three, out = base.rows()
        nets = [
            net_of(base, "ann", ("move", one, inner(base, two), None)), net_of(base, "bob", ("move", two, inner(base, one), None)),
            net_of(base, "cid", ("drop", one)),
        ]
        self.assertEqual(structure_faults(base, nets[0] + nets[1] + nets[2]), [("beneath", two)])
        nets.append(net_of(base, "dan", ("drop", two)))
        whole = nets[0] + nets[1] + nets[2] + nets[3]
        self.assertEqual(structure_faults(base, whole), [])
        self.assertEqual(joined(base, whole).rows(), [three, out])

    def test_a_row_within_itself_alone(self):
        # Where the net was made, the block is one of another row.
        row, other, block, rest = ("", 1), ("", 2), ("", 3), ("", 4)
        base = Program(at(0), {row: (at(0), (1, 1), ("block", block))}, {}, {}, {})
        rows = {row: (at(0), (1, 1), ("block", rest)), other: (at(0), (2, 1), ("block", block))}
        net = net_of(Program(at(0), rows, {}, {}, {}), "ann", ("move", row, block, None))
        self.assertEqual(net.attributes(), [("place", row)])
        self.assertEqual(structure_faults(base, net), [("ring", (row,))])

    def test_beneath(self):
        base = read_text("block {\nblock {\n}\n}\nout 1\n")
        outer, middle, out = base.rows()
        drop = net_of(base, "ann", ("drop", outer))
        put = net_of(base, "bob", ("put", inner(base, middle), None, ("block",)), ("put", ("bob", 2), None, ("out", 2)))
        move = net_of(base, "cid", ("move", out, inner(base, outer), None))
        self.assertEqual(
            structure_faults(base, put + move + drop), [("beneath", out), ("beneath", ("bob", 1)), ("beneath", ("bob", 3))],
        )
        # What only changes what is not there has no effect.
        change = net_of(base, "cid", ("value", base.numerals()[0], 2))
        self.assertEqual(program_text(joined(base, change + net_of(base, "dan", ("drop", out)))), "block {\n  block {\n  }\n}\n")
        # What is moved out is there.
        out_of = net_of(base, "dan", ("move", middle, at(0), None))
        self.assertEqual(joined(base, put + out_of + drop).rows(), [middle, ("bob", 1), ("bob", 3), out])

    def test_lost_and_reach(self):
        base = read_text("let x = 1\nblock {\nlet y = 2\nlet z = 3\n}\nout 0\n")
        x, block, y, z, out = base.rows()
        home = inner(base, block)
        names = {base.name_of(thing): thing for thing in base.declarations()}
        put = net_of(
            base, "ann", ("put", home, z, ("out", ("+", ("use", names["y"]), ("use", names["x"])))),
            ("put", home, None, ("out", ("use", names["y"]))),
        )
        drop = net_of(base, "bob", ("drop", x), ("drop", y))
        # In reading order, by whom ever.
        self.assertEqual(structure_faults(base, put + drop), [("lost", use) for use in (ann(5), ann(2), ann(3))])
        away = net_of(base, "cid", ("put", at(0), None, ("block",)), ("move", y, ("cid", 2), None))
        self.assertEqual(structure_faults(base, put + away), [("reach", ann(5)), ("reach", ann(2))])
        both = net_of(base, "dan", ("drop", x))
        self.assertEqual(structure_faults(base, put + away + both), [("reach", ann(5)), ("reach", ann(2)), ("lost", ann(3))])
        with self.assertRaises(Unsound) as caught:
            joined(base, put + away + both)
        self.assertEqual(caught.exception.fault, ("reach", ann(5)))

    def test_beneath_comes_ahead_of_uses(self):
        base = read_text("let x = 1\nblock {\n}\n")
        x, block = base.rows()
        whole = net_of(base, "ann", ("put", inner(base, block), None, ("block",))) + net_of(base, "bob", ("drop", block))
        whole = whole + net_of(base, "cid", ("put", at(0), None, ("out", ("use", at(2))))) + net_of(base, "dan", ("drop", x))
        self.assertEqual(structure_faults(base, whole), [("beneath", ann(1)), ("lost", ("cid", 2))])


class EffectTest(unittest.TestCase):
    def test_new_rows_that_are_there_already(self):
        base = read_text("block {\n}\nout 1\n")
        block, out = base.rows()
        draft = Draft(base, "ann")
        draft.edit(("put", at(0), None, ("let", "x", 1)), ("put", inner(base, block), None, ("out", ("use", ann(2)))))
        later = Draft(draft.result(), "bob")
        later.edit(("rename", ann(2), "y"), ("move", ann(1), at(0), out), ("value", ann(3), 5))
        # The new entries tell of the old state: they have no effect.
        self.assertEqual(joined(later.result(), draft.net()), later.result())
        dropped = Draft(later.result(), "cid")
        dropped.edit(("drop", block))
        # Also no fault: the new row would be beneath.
        self.assertEqual(structure_faults(later.result(), dropped.net() + draft.net()), [])
        self.assertEqual(joined(later.result(), dropped.net() + draft.net()), dropped.result())

    def test_a_place_entry_of_such_a_row_counts(self):
        base = read_text("block {\n}\nblock {\n}\n")
        one, two = base.rows()
        draft = Draft(base, "ann")
        draft.edit(("put", at(0), None, ("out", 1)))
        later = Draft(draft.result(), "bob")
        later.edit(("move", ann(1), inner(base, one), None))
        dropped = net_of(draft.result(), "cid", ("drop", one))
        self.assertEqual(structure_faults(draft.result(), draft.net() + later.net() + dropped), [("beneath", ann(1))])

    def test_entries_about_unknown_things(self):
        base = read_text("block {\n}\nout 1\n")
        longer = Draft(base, "ann")
        longer.edit(("put", at(0), None, ("let", "x", 1)), ("put", at(0), None, ("out", ("use", ann(2)))))
        changed = Draft(longer.result(), "bob")
        changed.edit(("put", at(0), None, ("let", "z", 0)), ("rename", ann(2), "y"), ("value", ann(3), 5))
        changed.edit(("turn", ann(5), ("bob", 2)), ("move", ann(1), inner(base, base.rows()[0]), None))
        changed.edit(("drop", ann(4)))
        # Without the rows of ann only the row of bob comes.
        self.assertEqual(joined(base, changed.net()).rows(), [("bob", 1), *base.rows()])
        # With them all comes.
        self.assertEqual(joined(base, changed.net() + longer.net()), changed.result())

    def test_changes_of_new_rows(self):
        base = read_text("")
        longer = Draft(base, "ann")
        longer.edit(("put", at(0), None, ("let", "x", 1)), ("put", at(0), ann(1), ("block",)))
        changed = Draft(longer.result(), "bob")
        changed.edit(("rename", ann(2), "y"), ("value", ann(3), 5), ("move", ann(1), ann(5), None))
        self.assertEqual(program_text(joined(base, longer.net() + changed.net())), "block {\n  let y = 5\n}\n")

    def test_what_the_other_one_changed_stays(self):
        base = read_text("let x = 1\nout x\nout 2\n")
        x, out, two = base.rows()
        one = net_of(base, "ann", ("rename", at(2), "y"), ("drop", two))
        other = net_of(base, "bob", ("value", base.numerals()[0], 8), ("put", at(0), out, ("out", ("use", at(2)))))
        self.assertEqual(program_text(joined(base, one + other)), "let y = 8\nout y\nout y\n")
        self.assertEqual(joined(joined(base, one), other), joined(joined(base, other), one))

    def test_rows_at_one_position(self):
        base = read_text("out 1\nout 2\n")
        nets = [net_of(base, person, ("put", at(0), base.rows()[0], ("out", 5))) for person in ("cid", "ann", "bob")]
        result = joined(base, nets[0] + nets[1] + nets[2])
        self.assertEqual(result.rows_of(at(0))[1:4], [ann(1), ("bob", 1), ("cid", 1)])
        self.assertEqual({result.position(row) for row in result.rows()[1:4]}, {(3, 2)})


class ErrorsTest(unittest.TestCase):
    def test_argued(self):
        base = read_text("let x = 1\n")
        one = net_of(base, "ann", ("rename", at(2), "y"), ("value", at(3), 2))
        other = net_of(base, "bob", ("rename", at(2), "z"), ("value", at(3), 3))
        for ask in (structure_faults, joined, lambda program, net: net_back(program, net, "zoe")):
            with self.assertRaises(Argued) as caught:
                ask(base, other + one)
            self.assertEqual(caught.exception.attribute, ("name", at(2)))
        for value in odd_values():
            with self.assertRaises(InvalidName) as caught:
                net_back(base, other + one, value)
            self.assertEqual(caught.exception.value, value)

    def test_unsound(self):
        base = read_text(BLOCKS)
        one, two, *_ = base.rows()
        ring = net_of(base, "ann", ("move", one, inner(base, two), None)) + net_of(base, "bob", ("move", two, inner(base, one), None))
        with self.assertRaises(Unsound) as caught:
            net_back(base, ring, "zoe")
        self.assertEqual(caught.exception.fault, ("ring", (one, two)))


class FactsTest(unittest.TestCase):
    """Point 25, and the second account of joins."""

    def test_the_net_leads_to_the_result_and_back(self):
        for seed in range(60):
            base, drafts = three_drafts(seed)
            for draft in drafts:
                before = base.state()
                net = draft.net()
                result = joined(base, net)
                self.assertEqual(result, draft.result())
                self.assertEqual(structure_faults(base, net), [])
                self.assertEqual(joined(result, net), result)
                back = net_back(base, net, "zoe")
                self.assertEqual((back, back.people()), (Net.between(result, base, "zoe"), ["zoe"]))
                self.assertEqual(joined(result, back), base)
                self.assertEqual(joined(base, Net.none()), base)
                self.assertEqual(base.state(), before)

    def test_between_any_two_results(self):
        for seed in range(40):
            base, drafts = three_drafts(seed)
            programs = [base, *[draft.result() for draft in drafts]]
            for one, other in itertools.permutations(programs, 2):
                self.assertEqual(joined(one, Net.between(one, other, "zoe")), other)

    def sums(self):
        """(base, the program that is joined, a net without argued attributes)."""
        for seed in range(160):
            base, drafts = three_drafts(seed, MOVES if seed % 4 == 3 else None)
            for one, other in itertools.combinations(drafts, 2):
                net = one.net() + other.net()
                for attribute in net.argued():
                    net = net.settled(attribute, random.Random(seed).choice(net.versions(attribute))[1][0])
                yield base, base, net
                third = [draft for draft in drafts if draft not in (one, other)][0]
                yield base, third.result(), net

    def test_as_the_second_account(self):
        seen = {}
        for _, program, net in self.sums():
            join = reference_nets.Join(program, {attribute: net.worth_of(attribute) for attribute in net.attributes()})
            wanted = join.faults()
            self.assertEqual(structure_faults(program, net), wanted)
            for fault in wanted:
                seen[fault[0]] = seen.get(fault[0], 0) + 1
            if wanted:
                with self.assertRaises(Unsound) as caught:
                    joined(program, net)
                self.assertEqual(caught.exception.fault, wanted[0])
            else:
                result = joined(program, net)
                seen["none"] = seen.get("none", 0) + 1
                self.assertEqual(result.state(), join.state())
                self.assertEqual(joined(result, net), result)
        self.assertEqual(sorted(seen), ["beneath", "lost", "none", "reach", "ring"])
        self.assertGreater(min(seen.values()), 3)

    def test_a_net_back_joined_with_both_nets(self):
        checked = 0
        for seed in range(120):
            base = random_program(seed, rows=14, depth=3, kinds=MANY_STEPS)
            words = "put put put rename move turn value wrap".split()
            one, other = [drafted(base, person, seed * 5 + k, 6, words) for k, person in enumerate(("ann", "bob"))]
            nets = [one.net(), other.net()]
            if set(nets[0].attributes()) & set(nets[1].attributes()) or structure_faults(base, nets[0] + nets[1]):
                continue
            checked += 1
            self.assertFalse([word for word, _ in (nets[0] + nets[1]).attributes() if word == "gone"])
            both = joined(base, nets[0] + nets[1])
            self.assertEqual(joined(both, net_back(base, nets[0], "zoe")), other.result())
            self.assertEqual(joined(both, net_back(base, nets[1], "zoe")), one.result())
        self.assertGreater(checked, 60)

    def test_right_exactly_if_declarations_of_one_name_are_apart(self):
        seen = {True: 0, False: 0}
        for seed in range(120):
            base = named_by_chance(random_program(seed, rows=8, depth=3), seed, "abcdefghij")
            drafts = [drafted(base, person, seed * 3 + k, 4, "put rename rename".split()) for k, person in enumerate(("ann", "bob"))]
            net = drafts[0].net() + drafts[1].net()
            if not net.argued() and not structure_faults(base, net):
                program = joined(base, net)
                table = Table(program)
                apart = all(
                    not table.meets(one, other) or program.name_of(one) != program.name_of(other)
                    for one, other in itertools.combinations(program.declarations(), 2)
                )
                self.assertEqual(is_right(program), apart)
                seen[apart] += 1
        self.assertGreater(min(seen.values()), 20)


if __name__ == "__main__":
    unittest.main()
