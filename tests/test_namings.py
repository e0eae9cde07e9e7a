import random
import unittest
from math import factorial

from piercednames.carried import WideTable
from piercednames.errors import InvalidFixed, InvalidNaming, NoNaming
from piercednames.making import make
from piercednames.namings import (
    count_namings, fewest_names, is_apart, naming_order, nth_naming, number_of, some_namings,
)
from piercednames.stretches import Table
from piercednames.texts import read_text
from tests import reference_names
from tests.reference_names import Facts, met
from tests.samples import empty_program, odd_values, random_program, wrong_programs

LETTERS = list("abcdefghijklmnopqrst")


def at(number):
    return ("", number)


def small_cases():
    """Tables with few declarations, and their stretches worked out another way."""
    for program in wrong_programs(80, rows=9, depth=3):
        facts = Facts(program)
        if len(facts.declarations) <= 6:
            yield Table(program), facts, facts.stretches()
            yield WideTable(program), facts, facts.wide_stretches()


def some_fixed(facts, stretches, names, seed):
    """Some declarations of the root that may be fixed, in any order."""
    source = random.Random(seed)
    chosen, taken = [], []
    for d in stretches:
        if facts.homes[d] == facts.root and facts.names[d] in names and facts.names[d] not in taken:
            if source.random() < 0.6:
                chosen.append(d)
                taken.append(facts.names[d])
    source.shuffle(chosen)
    return chosen


def order_of(facts, stretches, fixed):
    rest = [d for d in facts.top_order(stretches) if d not in fixed]
    return facts.sorted(fixed) + rest


def cases():
    """(table, names, fixed, the naming order, all namings that are apart in the order of their numbers)."""
    for seed, (table, facts, stretches) in enumerate(small_cases()):
        for many in (1, 2, 3, 4):
            names = LETTERS[:many]
            random.Random(seed).shuffle(names)
            for fixed in ([], some_fixed(facts, stretches, names, seed)):
                order = order_of(facts, stretches, fixed)
                kept = {d: facts.names[d] for d in fixed}
                yield table, names, fixed, order, reference_names.namings(order, met(stretches), names, kept)


class CountTest(unittest.TestCase):
    def test_as_many_as_there_are(self):
        counts = set()
        for table, names, fixed, order, listed in cases():
            counts.add(len(listed))
            self.assertEqual(count_namings(table, names, fixed=fixed), len(listed))
            self.assertEqual(count_namings(table, tuple(names), fixed=tuple(fixed)), len(listed))
            self.assertEqual(naming_order(table, fixed=fixed), order)
        self.assertIn(0, counts)
        self.assertGreater(len(counts), 20)

    def test_by_trying_all(self):
        for table, facts, stretches in small_cases():
            names = LETTERS[:3]
            pairs = met(stretches)
            right = [n for n in reference_names.all_namings(stretches, names) if reference_names.apart(n, pairs)]
            self.assertEqual(count_namings(table, names), len(right))

    def test_fewest_names(self):
        for table, facts, stretches in small_cases():
            needed = fewest_names(table)
            self.assertEqual(needed, max(sum(b in stretches[d] for d in stretches) for b in facts.blocks))
            for many in range(6):
                possible = many >= needed or not stretches
                self.assertEqual(count_namings(table, LETTERS[:many]) > 0, possible)

    def test_no_declarations(self):
        table = Table(empty_program())
        self.assertEqual((fewest_names(table), count_namings(table, []), count_namings(table, ["a"])), (0, 1, 1))
        self.assertEqual(nth_naming(table, [], 0), {})
        self.assertEqual(number_of(table, [], {}), 0)
        self.assertEqual(list(some_namings(table, [])), [{}])
        self.assertEqual(naming_order(table), [])
        self.assertIs(is_apart(table, {}), True)

    def test_all_in_the_root(self):
        table = Table(make([("let", label, 1) for label in LETTERS]))
        self.assertEqual(count_namings(table, LETTERS), factorial(20))
        self.assertEqual(count_namings(table, LETTERS[:19]), 0)
        self.assertEqual(count_namings(table, LETTERS, fixed=[at(2), at(5), at(8)]), factorial(17))

    def test_two_factors_below_zero_make_no_namings(self):
        table = Table(make([("let", label, 1) for label in "abc"]))
        self.assertEqual([count_namings(table, LETTERS[:many]) for many in range(5)], [0, 0, 0, 6, 24])

    def test_the_example(self):
        table = Table(read_text("let x = 1\nblock {\nlet y = x\nout y + x\n}\n"))
        self.assertEqual((fewest_names(table), count_namings(table, ["a", "b", "c"])), (2, 6))
        self.assertEqual(nth_naming(table, ["a", "b", "c"], 3), {at(2): "b", at(7): "c"})

    def test_lists_are_new(self):
        table = Table(random_program(3))
        naming_order(table).clear()
        self.assertEqual(naming_order(table), table.top_order())


class NumberTest(unittest.TestCase):
    def test_each_naming_has_its_number(self):
        for table, names, fixed, order, listed in cases():
            for number in list(range(len(listed)))[:60]:
                naming = nth_naming(table, names, number, fixed=fixed)
                self.assertEqual(naming, listed[number])
                self.assertEqual(list(naming), order)
                self.assertEqual(number_of(table, names, naming, fixed=fixed), number)
                self.assertIs(is_apart(table, naming), True)

    def test_great_numbers(self):
        checked = 0
        for seed in range(30):
            table = Table(random_program(seed, rows=80))
            many = count_namings(table, LETTERS)
            source = random.Random(seed)
            for number in [0, many - 1] + [source.randrange(many) for _ in range(3) if many]:
                if many > 0:
                    naming = nth_naming(table, LETTERS, number)
                    self.assertEqual(number_of(table, LETTERS, naming), number)
                    self.assertTrue(is_apart(table, naming))
                    checked = max(checked, number)
        self.assertGreater(checked, 10 ** 30)

    def test_no_naming(self):
        for table, names, fixed, _, listed in cases():
            for number in (-1, len(listed), len(listed) + 1):
                self.refused(table, names, number, fixed)
        table = Table(random_program(3))
        for value in odd_values():
            if isinstance(value, int) and not isinstance(value, bool) and 0 <= value < 10 ** 20:
                continue
            self.refused(table, LETTERS, value, ())

    def refused(self, table, names, number, fixed):
        with self.assertRaises(NoNaming) as caught:
            nth_naming(table, names, number, fixed=fixed)
        self.assertEqual(repr(caught.exception.number), repr(number))

    def test_keys_that_are_no_declarations_mean_nothing(self):
        for table, names, fixed, _, listed in cases():
            if listed:
                naming = {None: 3, True: "a", ("zz", 2): "a", at(0): [], "a": "b", **listed[-1]}
                kept = dict(naming)
                self.assertEqual(number_of(table, names, naming, fixed=fixed), len(listed) - 1)
                self.assertEqual(naming, kept)
                self.assertTrue(is_apart(table, naming))

    def test_dead_declarations_mean_nothing_in_a_wide_table(self):
        table = WideTable(make([("let", "a", 1), ("def", "p", ("b",), [])]))
        a, p = table.declarations()
        naming = {table.program.declarations()[2]: "q", p: "b", a: "a"}
        self.assertEqual(number_of(table, ["a", "b"], naming), 0)

    def test_true_in_the_place_of_a_number_is_no_declaration(self):
        program = make([("def", "p", (), [])], owner="ann")
        table = Table(program.renamed({}))
        self.assertEqual(table.declarations(), [("ann", 2)])
        # The root is 0 and the row is 1; in this program the declaration has the number 1.
        root, rows, names, meanings, values = program.state()
        rows = {("ann", 4): (root, (1, 1), ("def", ("ann", 1), (), ("ann", 3)))}
        table = Table(program.__class__(root, rows, {("ann", 1): "p"}, meanings, values))
        self.assertEqual(number_of(table, ["p"], {("ann", 1): "p"}), 0)
        with self.assertRaises(InvalidNaming):
            number_of(table, ["p"], {("ann", True): "p"})
        with self.assertRaises(InvalidFixed):
            count_namings(table, ["p"], fixed=[("ann", True)])


class InvalidNamingTest(unittest.TestCase):
    def refused(self, table, names, naming, fixed):
        with self.assertRaises(InvalidNaming) as caught:
            number_of(table, names, naming, fixed=fixed)
        return caught.exception.declaration

    def test_the_first_wrong_one_in_the_naming_order(self):
        source = random.Random(2)
        for table, names, fixed, order, listed in cases():
            if not listed or not order:
                continue
            naming = dict(source.choice(listed))
            for d in source.sample(order, source.randint(1, len(order))):
                naming[d] = source.choice([None, "z", "", 0, [], {}, empty_program(), True])
                if source.random() < 0.3:
                    del naming[d]
            wrong = [d for d in order if naming.get(d) not in LETTERS]
            self.assertEqual(self.refused(table, names, naming, fixed), wrong[0])

    def test_any_naming(self):
        told = set()
        for table, facts, stretches in small_cases():
            names = LETTERS[:3]
            pairs = met(stretches)
            for naming in list(reference_names.all_namings(stretches, names + ["z"]))[:300]:
                order = facts.top_order(stretches)
                wrong = []
                for index, d in enumerate(order):
                    earlier = [naming[other] for other in order[:index] if (d, other) in pairs]
                    if naming[d] == "z" or naming[d] in earlier:
                        wrong.append(d)
                told.add(bool(wrong))
                if wrong:
                    self.assertEqual(self.refused(table, names, naming, ()), wrong[0])
                else:
                    self.assertEqual(nth_naming(table, names, number_of(table, names, naming)), naming)
                if "z" not in naming.values():
                    self.assertIs(is_apart(table, naming), not wrong)
        self.assertEqual(told, {True, False})

    def test_a_fixed_one_keeps_its_name(self):
        table = Table(make([("let", "a", 1), ("let", "b", 1), ("let", "c", 1)]))
        a, b, c = table.declarations()
        self.assertEqual(number_of(table, ["a", "b", "c"], {a: "a", b: "b", c: "c"}, fixed=[b]), 0)
        self.assertEqual(self.refused(table, ["a", "b", "c"], {a: "b", b: "a", c: "c"}, [b]), b)
        # In the naming order b stands first, so a has the name of an earlier one.
        self.assertEqual(self.refused(table, ["a", "b", "c"], {a: "b", b: "b", c: "c"}, [b]), a)
        self.assertEqual(self.refused(table, ["a", "b", "c"], {a: "a", b: "a", c: "c"}, []), b)


class FixedTest(unittest.TestCase):
    def calls(self, table, names, fixed):
        """What the functions raise: at, or None."""
        told = []
        for call in (
            lambda: count_namings(table, names, fixed=fixed), lambda: nth_naming(table, names, None, fixed=fixed),
            lambda: number_of(table, names, {}, fixed=fixed), lambda: next(some_namings(table, names, fixed=fixed), None),
        ):
            try:
                call()
                told.append(None)
            except (NoNaming, InvalidNaming):
                told.append(None)
            except InvalidFixed as error:
                told.append(error.at)
        self.assertEqual(len(set(told)), 1)
        return told[0]

    def test_the_first_wrong_item(self):
        tree = [("let", "a", 1), ("let", "b", 1), ("let", "c", 1), ("def", "p", ("d",), [("let", "e", 1)]), ("let", "f", 1)]
        table = Table(make(tree, names={"f": "a"}))
        a, b, c, p, d, e, f = table.declarations()
        names = ["a", "b", "p"]
        self.assertIsNone(self.calls(table, names, []))
        self.assertIsNone(self.calls(table, names, [p, b, a]))
        self.assertEqual(self.calls(table, names, [b, c]), 1)
        self.assertEqual(self.calls(table, names, [b, b]), 1)
        self.assertEqual(self.calls(table, names, [a, b, f]), 2)
        self.assertEqual(self.calls(table, names, [f, a]), 1)
        self.assertEqual(self.calls(table, ["d", "e"], [d]), 0)
        self.assertEqual(self.calls(table, ["d", "e"], [e]), 0)
        for value in odd_values():
            self.assertEqual(self.calls(table, names, [a, p, value, c]), 2)
        for thing in table.program.things():
            if thing not in (a, b, c, p, f):
                self.assertEqual(self.calls(table, LETTERS, (thing,)), 0)

    def test_a_wide_table_has_what_is_alive(self):
        tree = [("def", "p", (), []), ("def", "q", (), [("def", "r", (), [])])]
        table = WideTable(make(tree))
        self.assertIsNone(self.calls(table, ["p", "q"], table.declarations()))
        self.assertEqual(self.calls(table, ["r"], [table.program.declarations()[2]]), 0)

    def test_arguments_are_not_changed(self):
        table = Table(make([("let", "a", 1), ("let", "b", 1)]))
        names, fixed = ["b", "a"], [at(5), at(2)]
        nth_naming(table, names, 0, fixed=fixed)
        number_of(table, names, {at(2): "a", at(5): "b"}, fixed=fixed)
        self.assertEqual((names, fixed), (["b", "a"], [at(5), at(2)]))


class SomeNamingsTest(unittest.TestCase):
    def test_pieces_of_the_list(self):
        for table, names, fixed, order, listed in cases():
            self.assertEqual(list(some_namings(table, names, fixed=fixed)), listed[:20])
            for start, many in ((0, 3), (1, 2), (2, 1000), (len(listed) - 1, 5), (len(listed), 5), (10 ** 9, 1), (0, 0)):
                start = max(start, 0)
                found = list(some_namings(table, names, start=start, many=many, fixed=fixed))
                self.assertEqual(found, listed[start:start + many])
                self.assertTrue(all(list(naming) == order for naming in found))

    def test_great_numbers(self):
        table = Table(make([("let", label, 1) for label in LETTERS]))
        start = factorial(20) - 2
        found = list(some_namings(table, LETTERS, start=start))
        self.assertEqual(found, [nth_naming(table, LETTERS, start), nth_naming(table, LETTERS, start + 1)])

    def test_errors_are_raised_with_the_first_item(self):
        table = Table(make([("let", "a", 1)]))
        waiting = some_namings(table, ["a"], many=0, fixed=[None])
        with self.assertRaises(InvalidFixed) as caught:
            next(waiting)
        self.assertEqual(caught.exception.at, 0)

    def test_namings_are_new(self):
        table = Table(make([("let", "a", 1)]))
        for naming in some_namings(table, ["a", "b"]):
            naming.clear()
        self.assertEqual(list(some_namings(table, ["a", "b"])), [{at(2): "a"}, {at(2): "b"}])


if __name__ == "__main__":
    unittest.main()
