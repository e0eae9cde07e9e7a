import itertools
import random
import unittest

from piercednames.errors import UnknownId
from piercednames.making import make
from piercednames.meaning import is_right
from piercednames.stretches import Stretch, Table
from piercednames.texts import read_text
from tests.reference_names import Facts, met
from tests.samples import empty_program, odd_values, random_program, wrong_programs


def at(number):
    return ("", number)


TEXT = "let x = 1\nblock {\nlet y = x\nout y + x\n}\n"


def sample():
    return Table(read_text(TEXT))


class StretchTest(unittest.TestCase):
    def test_what_it_was_given(self):
        blocks = [at(7), at(0), at(3)]
        stretch = Stretch(at(2), at(0), blocks)
        self.assertEqual((stretch.declaration, stretch.top), (at(2), at(0)))
        self.assertEqual(stretch.blocks(), [at(7), at(0), at(3)])
        blocks.clear()
        stretch.blocks().clear()
        self.assertEqual(stretch.blocks(), [at(7), at(0), at(3)])

    def test_a_tuple_in_the_place_of_the_list(self):
        stretch = Stretch(declaration=at(2), top=at(0), blocks=(at(0), at(4)))
        self.assertEqual(stretch.blocks(), [at(0), at(4)])
        self.assertEqual(stretch, Stretch(at(2), at(0), [at(0), at(4)]))

    def test_in(self):
        stretch = Stretch(at(2), at(0), [at(0), at(1), ("ann", 3)])
        for block in (at(0), at(1), ("ann", 3)):
            self.assertIs(block in stretch, True)
        values = [value for value in odd_values()] + [at(2), ("ann", 1), ("", True), ("", False), stretch, [at(0)]]
        for value in values:
            self.assertIs(value in stretch, False, value)

    def test_and(self):
        one = Stretch(at(2), at(0), [at(5), at(0), at(9), at(4)])
        other = Stretch(at(3), at(0), [at(4), at(5), at(8), at(0)])
        self.assertEqual(one & other, [at(5), at(0), at(4)])
        self.assertEqual(other & one, [at(4), at(5), at(0)])
        self.assertEqual(one & Stretch(at(6), at(7), [at(7)]), [])

    def test_meets(self):
        one = Stretch(at(2), at(0), [at(0), at(4)])
        self.assertIs(one.meets(one), True)
        self.assertIs(one.meets(Stretch(at(3), at(5), [at(5), at(4)])), True)
        self.assertIs(one.meets(Stretch(at(3), at(5), [at(5), at(6)])), False)

    def test_random_lists_of_blocks(self):
        source = random.Random(5)
        blocks = [at(number) for number in range(8)]
        for _ in range(200):
            one, other = [source.sample(blocks, source.randint(1, 8)) for _ in range(2)]
            stretches = [Stretch(at(9), one[0], one), Stretch(at(9), other[0], other)]
            self.assertEqual(stretches[0] & stretches[1], [block for block in one if block in other])
            self.assertIs(stretches[0].meets(stretches[1]), bool(set(one) & set(other)))
            self.assertIs(stretches[0] == stretches[1], set(one) == set(other))

    def test_equal(self):
        stretch = Stretch(at(2), at(0), [at(0), at(4)])
        self.assertEqual(stretch, Stretch(at(2), at(0), [at(4), at(0)]))
        self.assertEqual(stretch, Stretch(at(2), at(4), [at(4), at(0)]))
        self.assertNotEqual(stretch, Stretch(at(3), at(0), [at(0), at(4)]))
        self.assertNotEqual(stretch, Stretch(at(2), at(0), [at(0)]))
        for value in [*odd_values(), [at(0), at(4)], sample()]:
            self.assertFalse(stretch == value)

    def test_len_truth_and_repr(self):
        stretch = Stretch(at(2), at(0), [at(0), at(4)])
        self.assertEqual((len(stretch), bool(stretch), repr(stretch)), (2, True, "Stretch(2 blocks)"))
        self.assertEqual(repr(Stretch(at(2), at(0), [at(0)])), "Stretch(1 blocks)")
        self.assertIs(bool(Stretch(at(2), at(0), [])), True)


class TableTest(unittest.TestCase):
    def test_the_example(self):
        table = sample()
        self.assertEqual(table.stretch(at(2)).blocks(), [at(0), at(5)])
        self.assertEqual(table.meeting(), [(at(2), at(7))])
        self.assertEqual(table.clashing(), [])

    def test_the_examples_of_point_11(self):
        program = make([("let", "x", 1), ("let", "y", 1)], names={"y": "x"})
        self.assertEqual(Table(program).clashing(), [tuple(program.declarations())])
        tree = [("let", "x", 1), ("out", "x"), ("block", [("let", "y", 1)])]
        self.assertEqual(Table(make(tree, names={"y": "x"})).clashing(), [])
        tree = [("let", "x", 1), ("block", [("let", "y", 1), ("block", [("out", "x")])])]
        program = make(tree, names={"y": "x"})
        self.assertEqual(Table(program).clashing(), [tuple(program.declarations())])

    def test_random_programs(self):
        for program in wrong_programs(60):
            facts = Facts(program)
            stretches = facts.stretches()
            self.check(Table(program), facts, stretches)

    def check(self, table, facts, stretches):
        pairs = met(stretches)
        order = facts.top_order(stretches)
        self.assertEqual(table.declarations(), list(stretches))
        self.assertEqual(table.top_order(), order)
        self.assertEqual(len(table), len(stretches))
        for d in stretches:
            stretch = table.stretch(d)
            self.assertEqual((stretch.declaration, stretch.top), (d, facts.homes[d]))
            self.assertEqual(stretch.blocks(), facts.sorted(stretches[d]))
            earlier = order[:order.index(d)]
            self.assertEqual(table.ahead(d), [other for other in earlier if (d, other) in pairs])
            for other in stretches:
                self.assertIs(table.meets(d, other), d == other or (d, other) in pairs)
        listed = [(a, b) for a, b in itertools.combinations(stretches, 2) if (a, b) in pairs]
        self.assertEqual(table.meeting(), listed)
        self.assertEqual(table.clashing(), [(a, b) for a, b in listed if facts.names[a] == facts.names[b]])
        crowds = {block: [d for d in stretches if block in stretches[d]] for block in facts.blocks}
        for block in crowds:
            self.assertEqual(table.crowd(block), crowds[block])
        first = max(facts.blocks, key=lambda block: len(crowds[block]))
        self.assertEqual(table.greatest_crowd(), (first, crowds[first]))
        source = random.Random(1)
        for _ in range(20 if stretches else 0):
            chosen = source.choices(list(stretches), k=source.randint(0, 4))
            blocks = [block for block in facts.blocks if all(block in stretches[d] for d in chosen)]
            self.assertEqual(table.common(chosen), blocks)
            self.assertEqual(table.common(tuple(chosen)), blocks)
            unlike = all((a, b) in pairs for a in chosen for b in chosen if a != b)
            self.assertIs(table.unlike(chosen), unlike)

    def test_facts_of_points_11_and_12(self):
        for program in wrong_programs(60):
            table = Table(program)
            things = table.declarations()
            for one, other in itertools.combinations(things, 2):
                first, second = table.stretch(one), table.stretch(other)
                self.assertEqual(first.meets(second), first.top in second or second.top in first)
            for thing in things:
                ahead = table.ahead(thing)
                self.assertTrue(table.unlike(ahead))
                self.assertTrue(all(table.stretch(thing).top in table.stretch(other) for other in ahead))
                # They meet two by two, so they have a block in common.
                self.assertTrue(table.common([thing, *ahead]))
            self.assertEqual(is_right(program), table.clashing() == [])

    def test_names_count_for_clashing_alone(self):
        program = random_program(3)
        things = program.declarations()
        table = Table(program)
        other = Table(program.renamed({thing: "a" for thing in things}))
        self.assertEqual(table.clashing(), [])
        self.assertEqual(other.clashing(), table.meeting())
        self.assertTrue(other.clashing())
        self.assertEqual(other.greatest_crowd(), table.greatest_crowd())
        self.assertEqual([other.ahead(thing) for thing in things], [table.ahead(thing) for thing in things])

    def test_the_empty_list(self):
        table = sample()
        self.assertEqual(table.common([]), table.program.blocks())
        self.assertIs(table.unlike([]), True)
        self.assertIs(table.unlike([at(2), at(2)]), True)

    def test_a_program_without_declarations(self):
        for program in (empty_program(), read_text("out 1\nblock {\n}")):
            table = Table(program)
            self.assertEqual((table.declarations(), table.top_order(), table.meeting(), table.clashing()), ([], [], [], []))
            self.assertEqual(table.greatest_crowd(), (program.root, []))
            self.assertEqual((len(table), bool(table), repr(table)), (0, True, "Table(0 declarations)"))

    def test_parameters_stand_in_the_body(self):
        table = Table(read_text("def p(a) {\nif a {\nout a\n}\n}\nlet b = 1\n"))
        p, a, b = table.declarations()
        body = table.program.body(p)
        self.assertEqual(table.stretch(a).top, body)
        self.assertEqual(table.stretch(a).blocks(), table.program.blocks()[1:3])
        self.assertEqual(table.top_order(), [p, b, a])
        self.assertFalse(table.meets(a, p))

    def test_len_truth_repr_and_program(self):
        table = sample()
        self.assertEqual((len(table), bool(table), repr(table)), (2, True, "Table(2 declarations)"))
        self.assertEqual(table.program, read_text(TEXT))

    def test_lists_are_new(self):
        table = sample()
        for read in (
            table.declarations, table.top_order, table.meeting, lambda: table.ahead(at(7)), lambda: table.crowd(at(0)),
            lambda: table.common([]), lambda: table.greatest_crowd()[1], lambda: table.stretch(at(2)).blocks(),
        ):
            given = read()
            self.assertTrue(given)
            given.clear()
            self.assertTrue(read())

    def test_arguments_are_not_changed(self):
        table = sample()
        given = [at(7), at(2), at(7)]
        table.common(given)
        table.unlike(given)
        self.assertEqual(given, [at(7), at(2), at(7)])

    def test_unknown_ids(self):
        table = sample()
        wrong = odd_values() + [thing for thing in table.program.things() if thing not in table.declarations()]
        for value in wrong:
            for call in (
                lambda: table.stretch(value), lambda: table.ahead(value), lambda: table.meets(value, at(9999)),
                lambda: table.meets(at(2), value), lambda: table.common([at(2), value, at(9999)]),
                lambda: table.unlike([value]), lambda: table.unlike([at(2), at(7), value]),
            ):
                self.refused(call, value)
        for value in odd_values() + [thing for thing in table.program.things() if thing not in table.program.blocks()]:
            self.refused(lambda: table.crowd(value), value)

    def refused(self, call, value):
        with self.assertRaises(UnknownId) as caught:
            call()
        self.assertEqual(repr(caught.exception.thing), repr(value))


if __name__ == "__main__":
    unittest.main()
