import itertools
import random
import unittest

from piercednames.drafts import Draft
from piercednames.errors import (
    Argued, Beyond, InvalidWorth, Missing, NamesError, SamePerson, UnknownAttribute, UnknownId, UnknownPerson, Unsound,
)
from piercednames.heals import heal
from piercednames.joining import joined, structure_faults
from piercednames.meaning import faults, found, is_right
from piercednames.merges import Merge
from piercednames.nets import Net
from piercednames.programs import alike
from piercednames.stretches import Table
from piercednames.texts import read_text
from piercednames.writing import program_text
from tests.editing import drafted
from tests.samples import named_by_chance, odd_values, random_program, right_programs
from tests.test_nets import net_of, odd_attributes, three_drafts
from tests.test_steps import at, told

TEXT = "let x = 1\nblock {\nlet y = x\nout y\n}\nout x\n"
NAME, VALUE = ("name", at(2)), ("value", at(3))


def nets_of(base):
    """Nets of ann, bob, cid and dan; ann and cid agree."""
    return [
        net_of(base, "ann", ("rename", at(2), "k")), net_of(base, "bob", ("rename", at(2), "m"), ("value", at(3), 5)),
        net_of(base, "cid", ("rename", at(2), "k")), net_of(base, "dan", ("rename", at(2), "z"), ("value", at(3), 5)),
    ]


class MergeCase(unittest.TestCase):
    def refused(self, merge, error, bears, act, *items):
        before = self.told(merge)
        with self.assertRaises(error) as caught:
            act(*items)
        self.assertEqual(told(caught.exception), (error.__name__, *bears))
        self.assertEqual(self.told(merge), before)

    def told(self, merge):
        return (merge.base, merge.whole_net(), merge.net(), merge.settled(), merge.people(), merge.argued(), repr(merge))


class AddingTest(MergeCase):
    def test_a_merge_without_nets(self):
        base = read_text(TEXT)
        merge = Merge(base)
        self.assertIs(merge.base, base)
        self.assertEqual((merge.people(), merge.argued(), merge.faults(), merge.settled()), ([], [], [], {}))
        self.assertEqual((merge.whole_net(), merge.net(), merge.result()), (Net.none(), Net.none(), base))
        self.assertEqual((merge.name_faults(), merge.is_right(), repr(merge)), ([], True, "Merge(0 people)"))

    def test_nets_in_any_order(self):
        base = read_text(TEXT)
        wanted = Merge(base, *nets_of(base))
        for nets in itertools.permutations(nets_of(base)):
            merge = Merge(base, nets[0])
            for net in nets[1:]:
                merge.add_net(net)
            self.assertEqual(self.told(merge), self.told(wanted))
            self.assertEqual(self.told(Merge(base, *nets)), self.told(wanted))
        self.assertEqual((wanted.people(), repr(wanted)), (["ann", "bob", "cid", "dan"], "Merge(4 people)"))
        self.assertEqual(wanted.argued(), [NAME])
        self.assertFalse(wanted.is_right())

    def test_a_person_twice(self):
        base = read_text(TEXT)
        nets = nets_of(base)
        merge = Merge(base, nets[0], nets[3])
        self.refused(merge, SamePerson, ["ann"], merge.add_net, nets[2] + nets[0])
        self.refused(merge, SamePerson, ["ann"], merge.add_net, nets[3] + nets[0])
        with self.assertRaises(SamePerson) as caught:
            Merge(base, nets[3], nets[2] + nets[1], nets[1] + nets[0] + nets[2], nets[0])
        self.assertEqual(caught.exception.person, "bob")


class SettlingTest(MergeCase):
    def test_settle(self):
        base = read_text(TEXT)
        merge = Merge(base, *nets_of(base))
        merge.settle(NAME, "cid")
        self.assertEqual((merge.settled(), merge.argued()), ({NAME: "k"}, []))
        self.assertEqual(merge.net().versions(NAME), [("k", ("ann", "cid"))])
        self.assertEqual(merge.whole_net().argued(), [NAME])
        self.assertEqual((merge.result().name_of(at(2)), merge.is_right()), ("k", True))
        merge.settle(NAME, "dan")
        self.assertEqual((merge.settled(), merge.result().name_of(at(2))), ({NAME: "z"}, "z"))
        merge.settle(VALUE, "bob")
        self.assertEqual(list(merge.settled().items()), [(NAME, "z"), (VALUE, 5)])
        merge.unsettle(NAME)
        self.assertEqual((merge.settled(), merge.argued()), ({VALUE: 5}, [NAME]))

    def test_errors(self):
        base = read_text(TEXT)
        merge = Merge(base, *nets_of(base))
        merge.settle(NAME, "bob")
        for value in odd_attributes():
            self.refused(merge, UnknownAttribute, [value], merge.settle, value, "zoe")
            self.refused(merge, UnknownAttribute, [value], merge.unsettle, value)
        for value in [*odd_values(), "zoe", ("ann",)]:
            self.refused(merge, UnknownPerson, [value], merge.settle, NAME, value)
        self.refused(merge, UnknownPerson, ["ann"], merge.settle, VALUE, "ann")
        self.refused(merge, UnknownAttribute, [VALUE], merge.unsettle, VALUE)
        merge.unsettle(NAME)
        self.refused(merge, UnknownAttribute, [NAME], merge.unsettle, NAME)

    def test_what_stays_when_nets_are_added(self):
        base = read_text(TEXT)
        nets = nets_of(base)
        merge = Merge(base, nets[0], nets[1])
        merge.settle(NAME, "ann")
        merge.settle(VALUE, "bob")
        # The worths of cid were there already.
        merge.add_net(nets[2])
        self.assertEqual(merge.settled(), {NAME: "k", VALUE: 5})
        self.assertEqual(merge.net().versions(NAME), [("k", ("ann", "cid"))])
        # A worth that lost is no new one.
        merge.add_net(net_of(base, "eve", ("rename", at(2), "m")))
        self.assertEqual(merge.settled(), {NAME: "k", VALUE: 5})
        # That of dan is new for the name alone.
        merge.add_net(nets[3])
        self.assertEqual((merge.settled(), merge.argued()), ({VALUE: 5}, [NAME]))
        merge.settle(NAME, "dan")
        self.assertEqual(merge.settled(), {NAME: "z", VALUE: 5})

    def test_attributes_that_are_not_argued(self):
        base = read_text(TEXT)
        merge = Merge(base, nets_of(base)[1])
        merge.settle(NAME, "bob")
        self.assertEqual((merge.settled(), merge.net()), ({NAME: "m"}, merge.whole_net()))
        merge.add_net(nets_of(base)[0])
        self.assertEqual((merge.settled(), merge.argued()), ({}, [NAME]))

    def test_nets_that_are_settled_themselves(self):
        base = read_text(TEXT)
        nets = nets_of(base)
        merge = Merge(base, nets[0])
        merge.settle(NAME, "ann")
        merge.add_net((nets[1] + nets[2]).settled(NAME, "cid"))
        self.assertEqual((merge.settled(), merge.people(), merge.argued()), ({NAME: "k"}, ["ann", "bob", "cid"], []))
        self.refused(merge, UnknownPerson, ["bob"], merge.settle, NAME, "bob")

    def test_settlements_of_rows(self):
        base = read_text("block {\n}\nout 1\nout 2\n")
        block, one, two = base.rows()
        merge = Merge(
            base, net_of(base, "ann", ("move", two, at(0), None)), net_of(base, "bob", ("move", two, base.content(block)[1], None)),
            net_of(base, "cid", ("drop", block)),
        )
        place = ("place", two)
        self.assertEqual(merge.argued(), [place])
        self.refused(merge, Argued, [place], merge.faults)
        merge.settle(place, "bob")
        self.assertEqual((merge.faults(), merge.is_right()), ([("beneath", two)], False))
        merge.settle(place, "ann")
        self.assertEqual((merge.faults(), merge.result().rows()), ([], [two, one]))
        self.assertEqual(merge.settled(), {place: (at(0), (1, 2))})

    def test_twins(self):
        base = read_text(TEXT)
        merge = Merge(base, *nets_of(base)[:2])
        merge.settle(NAME, "ann")
        twin, before = merge.twin(), self.told(merge)
        self.assertEqual(self.told(twin), before)
        twin.settle(NAME, "bob")
        twin.settle(VALUE, "bob")
        twin.add_net(nets_of(base)[3])
        self.assertEqual(self.told(merge), before)
        after = self.told(twin)
        merge.unsettle(NAME)
        merge.add_net(nets_of(base)[2])
        self.assertEqual(self.told(twin), after)

    def test_told_lists_that_are_changed(self):
        base = read_text(TEXT)
        merge = Merge(base, *nets_of(base))
        merge.settle(NAME, "ann")
        before = self.told(merge)
        for listed in (merge.people(), merge.argued(), merge.settled(), merge.faults(), merge.name_faults()):
            listed.clear()
        self.assertEqual(self.told(merge), before)


class ResultTest(MergeCase):
    def test_argued_comes_ahead(self):
        base = read_text(TEXT)
        merge = Merge(base, *nets_of(base))
        for act in (merge.faults, merge.result, merge.name_faults, merge.heal):
            self.refused(merge, Argued, [NAME], act)
        with self.assertRaises(Argued):
            merge.heal(worths={at(99): 0}, held=[at(99)])

    def test_faults_of_structure(self):
        base = read_text("let x = 1\n")
        merge = Merge(base, net_of(base, "ann", ("drop", base.rows()[0])), net_of(base, "bob", ("put", at(0), None, ("out", ("use", at(2))))))
        fault = ("lost", ("bob", 2))
        self.assertEqual((merge.faults(), merge.is_right()), ([fault], False))
        for act in (merge.result, merge.name_faults, merge.heal):
            self.refused(merge, Unsound, [fault], act)

    def test_faults_of_names(self):
        base = read_text("let x = 1\nblock {\nout x\n}\n")
        inner = base.blocks()[1]
        merge = Merge(base, net_of(base, "ann", ("rename", at(2), "y")), net_of(base, "bob", ("put", inner, None, ("let", "y", 0))))
        self.assertEqual((merge.faults(), merge.argued(), merge.is_right()), ([], [], False))
        self.assertEqual(merge.name_faults(), [("caught", base.uses()[0], at(2), ("bob", 2), inner)])
        plan = merge.heal()
        self.assertEqual((plan.kept(), plan.renames()), ([at(2)], {("bob", 2): "a"}))
        plan = merge.heal(worths={("bob", 2): 3}, avoid=["a"])
        self.assertEqual(plan.renames(), {at(2): "b"})
        plan = merge.heal(held=[("bob", 2)])
        self.assertEqual(plan.kept(), [("bob", 2)])
        with self.assertRaises(Beyond):
            merge.heal(held=[("bob", 2), at(2)])
        with self.assertRaises(UnknownId):
            merge.heal(worths={("bob", 1): 3})
        with self.assertRaises(InvalidWorth):
            merge.heal(worths={at(2): 0}, held=[at(99)])

    def test_random_merges(self):
        right = 0
        for seed in range(60):
            base, drafts = three_drafts(seed)
            nets = [draft.net() for draft in drafts]
            merge = Merge(base, *nets)
            whole = nets[0] + nets[1] + nets[2]
            self.assertEqual((merge.whole_net(), merge.net(), merge.argued()), (whole, whole, whole.argued()))
            source = random.Random(seed)
            for attribute in whole.argued():
                if source.random() < 0.9:
                    worth, people = source.choice(whole.versions(attribute))
                    merge.settle(attribute, source.choice(people))
                    whole = whole.settled(attribute, people[0])
                    self.assertEqual(merge.settled()[attribute], worth)
            self.assertEqual((merge.net(), merge.argued()), (whole, whole.argued()))
            if whole.argued():
                self.assertFalse(merge.is_right())
                continue
            self.assertEqual(merge.faults(), structure_faults(base, whole))
            if merge.faults():
                self.assertFalse(merge.is_right())
                continue
            program = joined(base, whole)
            self.assertEqual((merge.result(), merge.name_faults()), (program, faults(program)))
            self.assertEqual(merge.is_right(), is_right(program))
            right += merge.is_right()
            plan, other = merge.heal(), heal(Table(program))
            self.assertEqual((plan.kept(), plan.renames(), plan.result()), (other.kept(), other.renames(), other.result()))
        self.assertGreater(right, 2)


class TogetherTest(unittest.TestCase):
    """Points 16 and 23 to 25 together, and 10, 11 and 25."""

    def merges(self):
        """(a merge without argued attributes, all of which is sound, the drafts, whether it is right)."""
        for seed, base in enumerate(right_programs(40, rows=14)):
            words = "put put put rename rename turn move wrap unwrap lift".split()
            drafts = [drafted(base, person, seed * 5 + k, 5, words) for k, person in enumerate(("ann", "bob", "cid"))]
            merge = Merge(base, *[draft.net() for draft in drafts])
            for attribute in merge.argued():
                merge.settle(attribute, merge.whole_net().versions(attribute)[-1][1][0])
            if not merge.faults():
                yield merge, drafts

    def test_a_healed_merge_keeps_what_its_writers_meant(self):
        checked = 0
        for merge, drafts in self.merges():
            result = merge.result()
            plan = merge.heal()
            healed = plan.result()
            checked += not merge.is_right()
            self.assertTrue(is_right(healed))
            self.assertEqual(sorted([*plan.kept(), *plan.renames()]), sorted(result.declarations()))
            self.assertEqual(plan.worth, self.greatest(result))
            net = merge.net()
            for use in healed.uses():
                self.assertEqual(found(healed, use), self.meant(use, merge.base, net, drafts))
        self.assertGreater(checked, 15)

    def meant(self, use, base, net, drafts):
        """What a use means by the one who wrote it last."""
        if ("means", use) in net:
            return net.worth_of(("means", use))
        for draft in drafts:
            if draft.person == use[0]:
                return draft.result().meaning(use)
        return base.meaning(use)

    def greatest(self, program):
        """The greatest number of declarations that can be kept, name by name, by trial."""
        table = Table(program)
        total = 0
        for name in set(program.names().values()):
            named = [thing for thing in program.declarations() if program.name_of(thing) == name]
            for size in range(len(named), 0, -1):
                if any(
                    not any(table.meets(one, other) for one, other in itertools.combinations(lot, 2))
                    for lot in itertools.combinations(named, size)
                ):
                    total += size
                    break
        return total

    def test_right_exactly_if_nothing_is_argued_and_all_of_one_name_are_apart(self):
        seen = set()
        for seed, base in enumerate(right_programs(60, rows=10, spare=1)):
            drafts = [drafted(base, person, seed * 3 + k, 3, "put rename rename".split()) for k, person in enumerate(("ann", "bob"))]
            merge = Merge(base, *[draft.net() for draft in drafts])
            try:
                table = Table(merge.result())
            except (NamesError, Missing):
                self.assertFalse(merge.is_right())
                seen.add("argued")
                continue
            self.assertEqual(merge.is_right(), not table.clashing())
            seen.add(merge.is_right())
        self.assertEqual(seen, {"argued", True, False})

    def test_a_new_name_by_three_roads(self):
        """A declaration is renamed in the program, by a draft, and in the written text."""

        seen = set()
        for base in right_programs(30, rows=12, spare=1):
            base = read_text(program_text(base))
            for thing in base.declarations():
                for name in ("a", "b", "zz"):
                    renamed = base.renamed({thing: name})
                    draft = Draft(base, "ann")
                    draft.edit(("rename", thing, name))
                    self.assertEqual(draft.result(), renamed)
                    self.assertEqual(joined(base, draft.net()), renamed)
                    try:
                        again = read_text(program_text(renamed))
                    except NamesError:
                        again = None
                    same = again is not None and alike(again, renamed)
                    self.assertEqual(same, is_right(renamed))
                    seen.add(same)
        self.assertEqual(seen, {True, False})


if __name__ == "__main__":
    unittest.main()
