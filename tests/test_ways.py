import random
import unittest

from piercednames.carried import WideTable
from piercednames.errors import InvalidNaming, NoSpare, TooMany
from piercednames.making import make
from piercednames.namings import count_namings, fewest_names, is_apart, nth_naming
from piercednames.stretches import Table
from piercednames.ways import way
from tests.samples import empty_program, odd_values, wrong_programs

LETTERS = list("abcdefghijklmnopqrst")


def tables():
    for program in wrong_programs(150, rows=12, depth=3):
        for table in (Table(program), WideTable(program)):
            if len(table) <= 8:
                yield table


def in_root(many):
    return Table(make([("let", label, 1) for label in LETTERS[:many]]))


class WayTest(unittest.TestCase):
    def check(self, table, names, naming, other):
        given = (list(names), dict(naming), dict(other))
        renames = list(way(table, names, naming, other))
        self.assertEqual((list(names), naming, other), given)
        self.assertLessEqual(len(renames), 2 ** len(table) - 1)
        now = {d: naming[d] for d in table.declarations()}
        for d, name in renames:
            self.assertIn(name, names)
            self.assertNotEqual(now[d], name)
            now[d] = name
            self.assertTrue(is_apart(table, now))
        self.assertEqual(now, {d: other[d] for d in now})
        return len(renames)

    def test_random_namings_with_one_name_to_spare(self):
        source = random.Random(4)
        longest = 0
        for table in tables():
            for spare in (1, 1, 2, 5):
                names = source.sample(LETTERS, fewest_names(table) + spare)
                many = count_namings(table, names)
                for _ in range(3):
                    naming, other = [nth_naming(table, names, source.randrange(many)) for _ in range(2)]
                    longest = max(longest, self.check(table, names, naming, other))
        self.assertGreater(longest, 8)

    def test_all_in_one_block(self):
        source = random.Random(6)
        for many in range(1, 9):
            table = in_root(many)
            names = LETTERS[:many + 1]
            for _ in range(20):
                namings = [dict(zip(table.declarations(), source.sample(names, many))) for _ in range(2)]
                self.check(table, names, *namings)

    def test_two_that_exchange_their_names(self):
        table = in_root(2)
        one, other = table.declarations()
        self.assertEqual(self.check(table, ["a", "b", "c"], {one: "a", other: "b"}, {one: "b", other: "a"}), 3)

    def test_the_same_naming(self):
        table = in_root(3)
        naming = nth_naming(table, LETTERS[:4], 3)
        self.assertEqual(list(way(table, LETTERS[:4], naming, dict(naming))), [])

    def test_no_declarations(self):
        table = Table(empty_program())
        self.assertEqual(list(way(table, ["a"], {}, {})), [])
        with self.assertRaises(NoSpare):
            next(way(table, [], {}, {}))

    def test_keys_that_are_no_declarations_mean_nothing(self):
        table = in_root(2)
        one, other = table.declarations()
        more = {None: "a", ("zz", 1): 7, "a": []}
        self.check(table, ("a", "b", "c"), {one: "a", other: "b", **more}, {**more, one: "b", other: "c"})

    def test_items_are_pairs(self):
        table = in_root(1)
        thing = table.declarations()[0]
        self.assertEqual(list(way(table, ["a", "b"], {thing: "a"}, {thing: "b"})), [(thing, "b")])


class ErrorsTest(unittest.TestCase):
    def test_too_many_comes_first(self):
        waiting = way(in_root(9), [], {}, {})
        with self.assertRaises(TooMany) as caught:
            next(waiting)
        self.assertEqual(caught.exception.most, 8)

    def test_a_wide_table_has_what_is_alive(self):
        tree = [("def", "p", tuple(LETTERS[:5]), []), *[("let", "z" + label, 1) for label in LETTERS[:7]]]
        program = make(tree)
        with self.assertRaises(TooMany):
            next(way(Table(program), LETTERS, {}, {}))
        table = WideTable(program)
        naming = nth_naming(table, LETTERS, 5)
        self.assertEqual(list(way(table, LETTERS, naming, naming)), [])

    def test_invalid_namings(self):
        table = in_root(3)
        a, b, c = table.declarations()
        right = {a: "a", b: "b", c: "c"}
        cases = [({**right, b: value}, b) for value in odd_values()]
        cases += [({a: "a", c: "c"}, b), ({}, a), ({**right, b: "a"}, b), ({**right, a: "z", c: "z"}, a)]
        for naming, declaration in cases:
            # With as many names as are needed NoSpare would follow.
            for names in (LETTERS[:4], LETTERS[:3]):
                for pair in ((naming, right), (right, naming), (naming, {})):
                    with self.assertRaises(InvalidNaming) as caught:
                        next(way(table, names, *pair))
                    self.assertEqual(caught.exception.declaration, declaration)

    def test_the_first_naming_counts_first(self):
        table = in_root(3)
        a, b, c = table.declarations()
        with self.assertRaises(InvalidNaming) as caught:
            next(way(table, LETTERS[:4], {a: "a", b: "b"}, {}))
        self.assertEqual(caught.exception.declaration, c)

    def test_no_spare(self):
        for table in tables():
            names = LETTERS[:fewest_names(table)]
            naming = nth_naming(table, names, 0)
            waiting = way(table, names, naming, naming)
            with self.assertRaises(NoSpare):
                next(waiting)

    def test_nothing_is_raised_before_the_first_item(self):
        way(in_root(9), [], {}, {})
        way(in_root(1), ["a"], {}, {})


if __name__ == "__main__":
    unittest.main()
