import itertools
import unittest

from piercednames.drafts import Draft
from piercednames.errors import Argued, InvalidName, SamePerson, UnknownAttribute, UnknownPerson, Unrelated
from piercednames.nets import Net
from piercednames.texts import read_text
from tests import reference_nets
from tests.editing import WORDS, drafted
from tests.samples import named_by_chance, odd_values, random_program
from tests.test_steps import MANY_STEPS

TEXT = "let x = 1\nblock {\nlet y = x\nout y\n}\nout x\n"
HARSH = "drop drop drop move move move put put turn rename value wrap unwrap lift hoist".split()


def at(number):
    return ("", number)


def ann(number):
    return ("ann", number)


def odd_attributes():
    """Values that are no attributes of any net here."""
    words = [("name", value) for value in odd_values()] + [(value, at(2)) for value in odd_values()]
    return odd_values() + words + [
        ("name",), ("name", at(2), at(2)), ["name", at(2)], ("name", ["", 2]), ("name", ("", True)), ("name", ("ann", False)),
        ("Name", at(2)), ("name", at(98)), ("new", ("zoe", 1)), ("gone", at(0)), at(2), (at(2), "name"),
    ]


def net_of(base, person, *edits):
    draft = Draft(base, person)
    draft.edit(*edits)
    return draft.net()


def three_drafts(seed, words=None):
    base = named_by_chance(random_program(seed, rows=14, depth=3, kinds=MANY_STEPS), seed, "abc")
    words = words or (WORDS, HARSH)[seed % 2]
    return base, [drafted(base, person, seed * 7 + k, 8, words) for k, person in enumerate(("ann", "bob", "cid"))]


class BetweenTest(unittest.TestCase):
    def test_entries_of_all_words(self):
        base = read_text(TEXT)
        x, block, last = base.rows_of(at(0))
        y, out = base.rows_of(base.blocks()[1])
        net = net_of(
            base, "ann", ("rename", at(2), "k"), ("value", base.numerals()[0], 7), ("turn", base.uses()[1], at(2)), ("drop", y),
            ("move", out, at(0), block), ("put", at(0), None, ("let", "z", ("+", ("use", at(2)), 3))),
        )
        entries = {
            ("gone", y): True, ("means", base.uses()[1]): at(2), ("name", at(2)): "k", ("value", base.numerals()[0]): 7,
            ("place", out): (at(0), (5, 2)),
            ("new", ann(1)): (
                at(0), (1, 2), ("let", ann(2), ("+", ("use", ann(3)), ("number", ann(4)))),
                ((ann(2), "z"), (ann(3), at(2)), (ann(4), 3)),
            ),
        }
        self.assertEqual(net.attributes(), sorted(entries))
        for attribute, worth in entries.items():
            self.assertEqual(net.worth_of(attribute), worth)
            self.assertEqual(net.versions(attribute), [(worth, ("ann",))])
            self.assertIn(attribute, net)
        self.assertEqual((net.people(), net.argued(), len(net), repr(net)), (["ann"], [], 6, "Net(6 attributes)"))
        self.assertIs(net.worth_of(("gone", y)), True)

    def test_details_in_reading_order(self):
        base = read_text("def f(a) {\n}\n")
        net = net_of(
            base, "ann", ("put", at(0), None, ("def", "g", ("b", "c"))),
            ("put", ann(3), None, ("out", ("-", ("use", ann(5)), 6))),
        )
        self.assertEqual(net.worth_of(("new", ann(1))), (
            at(0), (1, 2), ("def", ann(2), (ann(4), ann(5)), ann(3)), ((ann(2), "g"), (ann(4), "b"), (ann(5), "c")),
        ))
        self.assertEqual(net.worth_of(("new", ann(6))), (
            ann(3), (1, 1), ("out", ("-", ("use", ann(7)), ("number", ann(8)))), ((ann(7), ann(5)), (ann(8), 6)),
        ))
        self.assertEqual(net_of(base, "bob", ("put", at(0), None, ("block",))).worth_of(("new", ("bob", 1)))[3], ())

    def test_what_is_taken_back_leaves_no_entry(self):
        base = read_text(TEXT)
        draft = Draft(base, "ann")
        x, block, last = base.rows_of(at(0))
        draft.edit(("rename", at(2), "k"), ("rename", at(2), "x"), ("put", at(0), None, ("block",)), ("drop", ann(1)))
        draft.edit(("value", base.numerals()[0], 9), ("value", base.numerals()[0], 1), ("move", last, at(0), None))
        self.assertEqual(draft.net().attributes(), [("place", last)])
        draft.edit(("move", last, at(0), block))
        self.assertEqual((draft.net(), len(draft.net())), (Net.between(base, base, "ann"), 0))
        self.assertNotEqual(draft.net(), Net.none())
        self.assertEqual(draft.net().people(), ["ann"])

    def test_gone_only_for_rows_of_blocks_that_are_left(self):
        base = read_text("block {\nout 1\nblock {\nout 2\n}\n}\n")
        outer, one, inner, two = base.rows()
        self.assertEqual(net_of(base, "ann", ("drop", outer)).attributes(), [("gone", outer)])
        self.assertEqual(net_of(base, "ann", ("drop", inner)).attributes(), [("gone", inner)])
        net = net_of(base, "ann", ("move", inner, at(0), None), ("drop", outer))
        self.assertEqual(net.attributes(), [("gone", outer), ("place", inner)])
        net = net_of(base, "ann", ("move", inner, at(0), None), ("drop", outer), ("drop", two))
        self.assertEqual(net.attributes(), [("gone", outer), ("gone", two), ("place", inner)])

    def test_errors(self):
        base = read_text(TEXT)
        other = read_text("let x = 1\nblock {\nlet y = 1\nout y + 1\n}\nout x\n")
        for value in odd_values():
            with self.assertRaises(InvalidName) as caught:
                Net.between(base, other, value)
            self.assertEqual(caught.exception.value, value)
        with self.assertRaises(Unrelated) as caught:
            Net.between(base, other, "ann")
        # The contents of the first row are equal, as those of all that has the same ids.
        self.assertEqual(caught.exception.row, ("", 6))

    def test_the_least_unrelated_row(self):
        first, second = [random_program(seed, owner="ann") for seed in (1, 2)]
        common = [
            row for row in first.rows() if row in second.rows() and first.content(row) != second.content(row)
        ]
        with self.assertRaises(Unrelated) as caught:
            Net.between(first, second, "bob")
        self.assertEqual(caught.exception.row, min(common))

    def test_random_programs(self):
        for seed in range(60):
            base, drafts = three_drafts(seed)
            for one, other in itertools.permutations([base, *[draft.result() for draft in drafts]], 2):
                entries = reference_nets.between(one, other)
                net = Net.between(one, other, "zoe")
                self.assertEqual(net.attributes(), list(entries))
                self.assertEqual({attribute: net.worth_of(attribute) for attribute in entries}, entries)
                self.assertEqual(net.people(), ["zoe"])


class SumTest(unittest.TestCase):
    def test_versions(self):
        base = read_text(TEXT)
        nets = [net_of(base, person, ("rename", at(2), name)) for person, name in (("cid", "k"), ("ann", "m"), ("bob", "k"), ("dan", "a"))]
        whole = nets[0] + nets[1] + nets[2] + nets[3]
        name = ("name", at(2))
        self.assertEqual(whole.versions(name), [("m", ("ann",)), ("k", ("bob", "cid")), ("a", ("dan",))])
        self.assertEqual((whole.people(), whole.argued(), len(whole)), (["ann", "bob", "cid", "dan"], [name], 1))
        same = nets[0] + nets[2]
        self.assertEqual((same.versions(name), same.argued(), same.worth_of(name)), ([("k", ("bob", "cid"))], [], "k"))
        with self.assertRaises(Argued) as caught:
            whole.worth_of(name)
        self.assertEqual(caught.exception.attribute, name)

    def test_order_and_grouping(self):
        argued = 0
        for seed in range(60):
            base, drafts = three_drafts(seed)
            wanted = reference_nets.summed(*[(reference_nets.between(base, draft.result()), draft.person) for draft in drafts])
            for one, other, third in itertools.permutations([draft.net() for draft in drafts]):
                for whole in ((one + other) + third, one + (other + third)):
                    self.assertEqual({attribute: whole.versions(attribute) for attribute in whole.attributes()}, wanted)
                    self.assertEqual(whole.attributes(), list(wanted))
                    self.assertEqual(whole.people(), ["ann", "bob", "cid"])
                    self.assertEqual(whole, drafts[2].net() + drafts[0].net() + drafts[1].net())
            self.assertEqual(whole.argued(), [attribute for attribute in wanted if len(wanted[attribute]) > 1])
            argued += len(whole.argued())
        self.assertGreater(argued, 30)

    def test_the_net_without_people(self):
        net = net_of(read_text(TEXT), "ann", ("rename", at(2), "k"))
        none = Net.none()
        self.assertEqual((none.people(), none.attributes(), none.argued(), len(none)), ([], [], [], 0))
        self.assertEqual((repr(none), bool(none)), ("Net(0 attributes)", True))
        self.assertEqual((none + net, net + none, none + none), (net, net, none))

    def test_people_in_common(self):
        base = read_text(TEXT)
        nets = {person: net_of(base, person) for person in ("ann", "bob", "cid", "dan")}
        one, other = nets["dan"] + nets["bob"] + nets["cid"], nets["cid"] + nets["bob"] + nets["ann"]
        for left, right in ((one, other), (other, one)):
            with self.assertRaises(SamePerson) as caught:
                left + right
            self.assertEqual(caught.exception.person, "bob")
        with self.assertRaises(SamePerson):
            nets["ann"] + nets["ann"]


class AskingTest(unittest.TestCase):
    def setUp(self):
        base = read_text(TEXT)
        self.name, self.value, self.new = ("name", at(2)), ("value", base.numerals()[0]), ("new", ann(1))
        one = net_of(base, "ann", ("rename", at(2), "k"), ("put", at(0), None, ("out", 1)))
        other = net_of(base, "bob", ("rename", at(2), "m"), ("value", self.value[1], 5))
        self.net = one + other + net_of(base, "cid", ("rename", at(2), "k"))

    def test_unknown_attributes(self):
        for value in odd_attributes():
            self.assertFalse(value in self.net)
            for ask in (
                self.net.versions, self.net.worth_of, lambda value: self.net.chosen([self.name, value, ("x",)]),
                lambda value: self.net.settled(value, "zoe"),
            ):
                with self.assertRaises(UnknownAttribute) as caught:
                    ask(value)
                self.assertEqual(caught.exception.attribute, value)

    def test_unknown_people(self):
        for value in [*odd_values(), "dan", ("ann",), ["ann"]]:
            with self.assertRaises(UnknownPerson) as caught:
                self.net.settled(self.name, value)
            self.assertEqual(caught.exception.person, value)
        with self.assertRaises(UnknownPerson):
            self.net.settled(self.value, "ann")

    def test_settled(self):
        for person, worth, people in (("ann", "k", ("ann", "cid")), ("bob", "m", ("bob",)), ("cid", "k", ("ann", "cid"))):
            settled = self.net.settled(self.name, person)
            self.assertEqual(settled.versions(self.name), [(worth, people)])
            self.assertEqual(settled.people(), ["ann", "bob", "cid"])
            self.assertEqual((settled.argued(), len(settled)), ([], 3))
        self.assertEqual(self.net.argued(), [self.name])
        self.assertEqual(self.net.settled(self.value, "bob"), self.net)

    def test_chosen(self):
        chosen = self.net.chosen((self.value, self.name, self.value))
        self.assertEqual(chosen.attributes(), [self.name, self.value])
        self.assertEqual(chosen.versions(self.name), self.net.versions(self.name))
        self.assertEqual(chosen.people(), ["ann", "bob", "cid"])
        self.assertEqual((len(self.net.chosen([])), self.net.chosen([]).people()), (0, ["ann", "bob", "cid"]))
        self.assertEqual(self.net.chosen(self.net.attributes()), self.net)

    def test_equality(self):
        base = read_text(TEXT)
        one = net_of(base, "ann", ("rename", at(2), "k"))
        self.assertEqual(one, net_of(base, "ann", ("put", at(0), None, ("block",)), ("drop", ann(1)), ("rename", at(2), "k")))
        for other in (
            net_of(base, "bob", ("rename", at(2), "k")), net_of(base, "ann", ("rename", at(2), "m")), Net.none(),
            one + Net.between(base, base, "bob"), net_of(base, "ann", ("rename", at(2), "k"), ("put", at(0), None, ("block",))),
            *odd_values(),
        ):
            self.assertNotEqual(one, other)
        # One program, but other ids.
        self.assertNotEqual(
            net_of(base, "ann", ("put", at(0), None, ("out", 1))),
            net_of(base, "ann", ("put", at(0), None, ("block",)), ("drop", ann(1)), ("put", at(0), None, ("out", 1))),
        )

    def test_told_lists_that_are_changed(self):
        copy = self.net.chosen(self.net.attributes())
        for told in (self.net.people(), self.net.attributes(), self.net.versions(self.name), self.net.argued()):
            told.reverse()
            told.append(None)
        self.assertEqual(self.net, copy)
        self.assertEqual(self.net.people(), ["ann", "bob", "cid"])
        self.assertEqual(Net.WORDS, ("gone", "means", "name", "new", "place", "value"))

    def test_worths_as_deep_as_long_sums(self):
        base = read_text("def p() {\nout " + "+".join(["1"] * 2500) + "\n}\ndo p()\n")
        nets = [net_of(base, person, ("inline", base.rows_of(at(0))[1])) for person in ("ann", "ann", "bob")]
        self.assertEqual(nets[0], nets[1])
        self.assertEqual(len(nets[0] + nets[2]), 5)
        self.assertEqual((nets[0] + nets[2]).argued(), [])

    def test_equal_new_rows_of_two_people(self):
        # Both have the row of a third one.
        base = read_text(TEXT)
        longer = Draft(base, "cid")
        longer.edit(("put", at(0), None, ("out", ("+", 1, 2))))
        nets = [Net.between(base, longer.result(), person) for person in ("ann", "bob")]
        whole = nets[0] + nets[1]
        self.assertEqual(whole.versions(("new", ("cid", 1)))[0][1], ("ann", "bob"))
        longer.edit(("value", ("cid", 3), 7))
        self.assertEqual((nets[0] + Net.between(base, longer.result(), "dan")).argued(), [("new", ("cid", 1))])


if __name__ == "__main__":
    unittest.main()
