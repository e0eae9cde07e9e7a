import itertools
import unittest

from piercednames.choices import all_right, fill, first_fault, least_wrong, needs
from piercednames.contents import things_of
from piercednames.drafts import Draft
from piercednames.errors import Argued, Moved, NotFull, UnknownAttribute
from piercednames.joining import joined, structure_faults
from piercednames.meaning import faults
from piercednames.nets import Net
from piercednames.texts import read_text
from tests.editing import drafted
from tests.samples import named_by_chance, random_program, right_programs
from tests.test_nets import net_of, odd_attributes
from tests.test_steps import ann, at

WORDS = "put put put put rename rename turn value drop".split()


class Needs:
    """What the attributes of a net need, a second time: by looking at all pairs."""

    def __init__(self, net):
        self.net = net
        self.attributes = net.attributes()

    def things(self, new):
        """The things of the row of a new entry."""
        return [new[1], *[thing for _, thing in things_of(self.net.worth_of(new)[2])]]

    def declared(self, new):
        return [thing for word, thing in things_of(self.net.worth_of(new)[2]) if word == "declaration"]

    def needs(self, attribute, new):
        """Whether an attribute needs a new entry."""
        if attribute == new:
            return False
        word, thing = attribute
        worth = self.net.worth_of(attribute)
        if thing in self.things(new) or (word == "means" and worth in self.declared(new)):
            return True
        if word != "new":
            return False
        meanings = [told for own, told in worth[3] if ("use", own) in things_of(worth[2])]
        return worth[0] in self.things(new) or bool(set(meanings) & set(self.declared(new)))

    def of(self, attribute):
        news = [other for other in self.attributes if other[0] == "new"]
        return sorted(new for new in news if self.needs(attribute, new))

    def is_full(self, choice):
        return all(other in choice for attribute in choice for other in self.of(attribute))

    def fill(self, choice):
        """The least full choice, out of all that are full."""
        found = set(choice)
        while not self.is_full(found):
            found |= {other for attribute in found for other in self.of(attribute)}
        return sorted(found)


def subsets(things, most):
    for size in range(most + 1):
        yield from itertools.combinations(things, size)


def fault_of(program, net, choice):
    chosen = net.chosen(choice)
    wrong = structure_faults(program, chosen) or faults(joined(program, chosen))
    return wrong[0] if wrong else None


def cases(many, most, edits=4):
    """(program, net) with at most about so many attributes, none of them argued."""
    bases = right_programs(many, rows=8) + [random_program(seed, rows=8, depth=3) for seed in range(many)]
    bases += [named_by_chance(base, seed, "abcdef") for seed, base in enumerate(bases[::5])]
    for seed, base in enumerate(bases):
        net = Net.none()
        for k, person in enumerate(("ann", "bob")):
            net = net + drafted(base, person, seed * 3 + k, edits, WORDS).net()
        for attribute in net.argued():
            net = net.settled(attribute, net.versions(attribute)[0][1][0])
        attributes = [attribute for attribute in net.attributes() if attribute[0] != "place"][:most]
        net = net.chosen(fill(net.chosen(attributes), attributes))
        yield base, net


class NeedsTest(unittest.TestCase):
    def test_new_rows(self):
        base = read_text("let x = 1\nblock {\n}\n")
        draft = Draft(base, "ann")
        draft.edit(("put", at(0), None, ("block",)), ("put", ann(2), None, ("let", "y", ("use", ann(4)))))
        draft.edit(("put", at(0), None, ("let", "z", 2)), ("put", ann(2), ann(3), ("out", ("+", ("use", ann(4)), ("use", ann(7))))))
        net = draft.net()
        block, let, other, out = [("new", ann(number)) for number in (1, 3, 6, 9)]
        self.assertEqual(net.attributes(), [block, let, other, out])
        self.assertEqual([needs(net, attribute) for attribute in (block, let, other, out)], [[], [block], [], [block, let, other]])
        self.assertEqual(fill(net, [let]), [block, let])
        self.assertEqual(fill(net, [out]), [block, let, other, out])
        self.assertEqual((fill(net, []), fill(net, (other, other))), ([], [other]))

    def test_what_is_changed_of_new_rows(self):
        base = read_text("let x = 1\nout x\n")
        draft = Draft(base, "ann")
        draft.edit(("put", at(0), None, ("let", "y", 5)), ("put", at(0), ann(1), ("out", ("use", ann(2)))))
        later = Draft(draft.result(), "bob")
        later.edit(("rename", ann(2), "z"), ("value", ann(3), 6), ("turn", ann(5), at(2)), ("turn", base.uses()[0], ann(2)))
        later.edit(("drop", ann(4)), ("put", at(0), None, ("set", ann(2), 3)))
        net = draft.net() + later.net()
        let, out, new = ("new", ann(1)), ("new", ann(4)), ("new", ("bob", 1))
        self.assertEqual(needs(net, ("name", ann(2))), [let])
        self.assertEqual(needs(net, ("value", ann(3))), [let])
        self.assertEqual(needs(net, ("means", base.uses()[0])), [let])
        self.assertEqual(needs(net, ("gone", ann(4))), [out])
        self.assertEqual(needs(net, new), [let])
        self.assertEqual(needs(net, out), [let])
        turned = Draft(draft.result(), "cid")
        turned.edit(("put", at(0), None, ("let", "k", 1)), ("turn", ann(5), ("cid", 2)))
        net = draft.net() + turned.net()
        self.assertEqual(needs(net, ("means", ann(5))), [out, ("new", ("cid", 1))])
        self.assertEqual(fill(net, [("means", ann(5))]), sorted([("means", ann(5)), let, out, ("new", ("cid", 1))]))

    def test_procedures_and_parameters(self):
        draft = Draft(read_text(""), "ann")
        draft.edit(("put", at(0), None, ("def", "f", ("a",))), ("put", ann(3), None, ("do", ann(2), (("use", ann(4)),))))
        net = draft.net()
        self.assertEqual([needs(net, attribute) for attribute in net.attributes()], [[], [("new", ann(1))]])

    def test_random_nets(self):
        seen = 0
        for _, net in cases(40, 14, 8):
            second = Needs(net)
            for attribute in net.attributes():
                self.assertEqual(needs(net, attribute), second.of(attribute))
                seen += len(second.of(attribute))
            for choice in subsets(net.attributes(), 2):
                self.assertEqual(fill(net, choice), second.fill(choice))
                self.assertEqual(fill(net, choice[::-1]), second.fill(choice))
        self.assertGreater(seen, 60)


class ErrorsTest(unittest.TestCase):
    def asks(self, program, net, value):
        return [
            lambda: needs(net, value), lambda: fill(net, [value, ("x",)]), lambda: first_fault(program, net, [value]),
            lambda: least_wrong(program, net), lambda: all_right(program, net),
        ]

    def test_argued_then_moved(self):
        base = read_text("let x = 1\nout 2\nout 3\n")
        rows = base.rows()
        one = net_of(base, "ann", ("rename", at(2), "y"), ("value", at(3), 2), ("move", rows[2], at(0), None))
        other = net_of(base, "bob", ("rename", at(2), "z"), ("value", at(3), 4), ("move", rows[1], at(0), rows[2]))
        for ask in self.asks(base, one + other, "nothing"):
            with self.assertRaises(Argued) as caught:
                ask()
            self.assertEqual(caught.exception.attribute, ("name", at(2)))
        settled = (one + other).settled(("name", at(2)), "ann").settled(("value", at(3)), "bob")
        for ask in self.asks(base, settled, "nothing"):
            with self.assertRaises(Moved) as caught:
                ask()
            self.assertEqual(caught.exception.attribute, ("place", rows[1]))

    def test_unknown_attributes(self):
        base = read_text("let x = 1\n")
        net = net_of(base, "ann", ("rename", at(2), "y"))
        for value in odd_attributes():
            for ask in self.asks(base, net, value)[:3]:
                with self.assertRaises(UnknownAttribute) as caught:
                    ask()
                self.assertEqual(caught.exception.attribute, value)

    def test_choices_that_are_not_full(self):
        base = read_text("")
        draft = Draft(base, "ann")
        draft.edit(("put", at(0), None, ("block",)), ("put", ann(2), None, ("block",)), ("put", ann(4), None, ("block",)))
        net = draft.net()
        one, two, three = net.attributes()
        for choice, wrong in (([two], two), ([three, two], two), ([three, one], three), ((three,), three)):
            with self.assertRaises(NotFull) as caught:
                first_fault(base, net, choice)
            self.assertEqual(caught.exception.attribute, wrong)
        with self.assertRaises(UnknownAttribute):
            first_fault(base, net, [two, ("new", ann(2))])
        self.assertIsNone(first_fault(base, net, [three, one, two, one]))


class FaultsTest(unittest.TestCase):
    def test_the_example_of_the_document(self):
        base = read_text("let x = 1\nblock {\nout x\n}\n")
        inner = base.blocks()[1]
        one = net_of(base, "ann", ("rename", at(2), "y"))
        other = net_of(base, "bob", ("put", inner, None, ("let", "y", 0)))
        net = one + other
        name, new = ("name", at(2)), ("new", ("bob", 1))
        self.assertEqual(least_wrong(base, net), [name, new])
        self.assertFalse(all_right(base, net))
        fault = ("caught", base.uses()[0], at(2), ("bob", 2), inner)
        self.assertEqual([first_fault(base, net, choice) for choice in ([], [name], [new], [new, name])], [None, None, None, fault])
        for single in (one, other, Net.none()):
            self.assertEqual((least_wrong(base, single), all_right(base, single)), (None, True))

    def test_faults_of_structure_come_first(self):
        base = read_text("let x = 1\nlet y = 2\n")
        one = net_of(base, "ann", ("put", at(0), None, ("out", ("use", at(2)))), ("rename", at(2), "y"))
        other = net_of(base, "bob", ("drop", base.rows()[0]))
        self.assertEqual(first_fault(base, one + other, (one + other).attributes()), ("lost", ann(2)))
        self.assertEqual(first_fault(base, one + other, [("name", at(2))]), ("doubled", at(2), at(5), at(0)))
        self.assertEqual(least_wrong(base, one + other), [("name", at(2))])

    def test_a_program_that_is_wrong_ahead(self):
        base = read_text("let x = 1\nlet y = 2\n").renamed({at(2): "y"})
        net = net_of(base, "ann", ("rename", at(2), "x"))
        self.assertEqual((least_wrong(base, net), all_right(base, net)), ([], False))
        self.assertIsNone(first_fault(base, net, [("name", at(2))]))

    def test_three_attributes(self):
        # The name is caught only if the use is there, the name is new, and the let, too.
        base = read_text("let x = 1\nblock {\n}\n")
        inner = base.blocks()[1]
        net = net_of(base, "ann", ("rename", at(2), "k")) + net_of(base, "bob", ("put", inner, None, ("let", "k", 0)))
        net = net + net_of(base, "cid", ("put", inner, None, ("out", ("use", at(2)))))
        self.assertEqual(least_wrong(base, net), net.attributes())
        self.assertEqual(len(net), 3)
        self.assertTrue(all(first_fault(base, net, choice) is None for choice in subsets(net.attributes(), 2)))

    def test_a_name_that_goes_away(self):
        # Without the new name of x, the new y is doubled.
        base = read_text("let x = 1\n")
        draft = Draft(base, "ann")
        draft.edit(("rename", at(2), "z"), ("put", at(0), None, ("let", "x", 2)))
        self.assertEqual(least_wrong(base, draft.net()), [("new", ann(1))])
        self.assertIsNone(first_fault(base, draft.net(), draft.net().attributes()))

    def test_by_trying_all_choices(self):
        seen = {}
        for program, net in cases(25, 6):
            second = Needs(net)
            wanted = None
            for choice in subsets(net.attributes(), 3):
                full = second.fill(choice)
                if fault_of(program, net, full) is not None:
                    wanted = list(choice)
                    break
            self.assertEqual(least_wrong(program, net), wanted)
            right = True
            for choice in subsets(net.attributes(), len(net)):
                if second.is_full(choice):
                    fault = fault_of(program, net, choice)
                    self.assertEqual(first_fault(program, net, choice), fault)
                    right = right and fault is None
            # Point 27: choices of at most three attributes tell of all.
            self.assertEqual((right, all_right(program, net)), (wanted is None, wanted is None))
            seen[None if wanted is None else len(wanted)] = True
        self.assertEqual(sorted(seen, key=str), [0, 1, 2, None])

    def test_told_lists_that_are_changed(self):
        base = read_text("let x = 1\n")
        net = net_of(base, "ann", ("rename", at(2), "y"), ("put", at(0), None, ("let", "z", 1)), ("put", at(0), None, ("set", ann(2), 1)))
        choice = [("new", ann(4))]
        before = (needs(net, choice[0]), fill(net, choice))
        needs(net, choice[0]).clear()
        fill(net, choice).clear()
        self.assertEqual((needs(net, choice[0]), fill(net, choice), choice), (*before, [("new", ann(4))]))


if __name__ == "__main__":
    unittest.main()
