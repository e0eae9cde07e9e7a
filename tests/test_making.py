import unittest

from piercednames.errors import DuplicateName, InvalidName, Misused, OutOfReach, UnknownName
from piercednames.making import make
from piercednames.programs import Program
from tests import reference
from tests.samples import empty_program, odd_values, random_tree


def with_tuples(part):
    """The same tree with tuples in the place of all lists."""
    if isinstance(part, (list, tuple)):
        return tuple(with_tuples(item) for item in part)
    return part


class MakeTest(unittest.TestCase):
    def test_empty(self):
        self.assertEqual(make([]), empty_program())
        self.assertEqual(make((), owner="ann").root, ("ann", 0))

    def test_each_kind_of_row(self):
        program = make([
            ("let", "x", 3), ("set", "x", ("+", "x", 1)), ("read", "x"), ("out", ("*", ("-", 1, 2), "x")),
            ("def", "p", ("a", "b"), [("out", "a")]), ("do", "p", ("x", 5)),
            ("if", ("<", "x", 2), [("read", "x")], [("out", 0)]), ("repeat", 4, [("read", "x")]),
            ("block", [("out", 9)]),
        ])

        def at(number):
            return ("", number)

        def use(number):
            return ("use", at(number))

        def numeral(number):
            return ("number", at(number))

        root = at(0)
        rows = {
            at(1): (root, (1, 1), ("let", at(2), numeral(3))),
            at(4): (root, (2, 1), ("set", at(5), ("+", use(6), numeral(7)))),
            at(8): (root, (3, 1), ("read", at(9))),
            at(10): (root, (4, 1), ("out", ("*", ("-", numeral(11), numeral(12)), use(13)))),
            at(14): (root, (5, 1), ("def", at(15), (at(17), at(18)), at(16))),
            at(19): (at(16), (1, 1), ("out", use(20))),
            at(21): (root, (6, 1), ("do", at(22), (use(23), numeral(24)))),
            at(25): (root, (7, 1), ("if", ("<", use(26), numeral(27)), at(28), at(31))),
            at(29): (at(28), (1, 1), ("read", at(30))),
            at(32): (at(31), (1, 1), ("out", numeral(33))),
            at(34): (root, (8, 1), ("repeat", numeral(35), at(36))),
            at(37): (at(36), (1, 1), ("read", at(38))),
            at(39): (root, (9, 1), ("block", at(40))),
            at(41): (at(40), (1, 1), ("out", numeral(42))),
        }
        names = {at(2): "x", at(15): "p", at(17): "a", at(18): "b"}
        meanings = {at(number): at(2) for number in (5, 6, 9, 13, 23, 26, 30, 38)}
        meanings.update({at(20): at(17), at(22): at(15)})
        values = {at(3): 3, at(7): 1, at(11): 1, at(12): 2, at(24): 5, at(27): 2, at(33): 0, at(35): 4, at(42): 9}
        self.assertEqual(program.state(), (root, rows, names, meanings, values))
        self.assertEqual(program, Program(root, rows, names, meanings, values))

    def test_owner(self):
        tree = random_tree(3)
        plain, owned = make(tree), make(tree, owner="ann")
        self.assertEqual(owned.things(), [("ann", number) for number in range(len(plain.things()))])
        self.assertEqual(plain.things(), [("", number) for number in range(len(plain.things()))])

    def test_ids_in_reading_order(self):
        for seed in range(40):
            program = make(random_tree(seed), owner="bob")
            found = [thing for _, thing, _, _ in reference.order(program.state())]
            self.assertEqual(found, [("bob", number) for number in range(len(found))])

    def test_a_declaration_is_seen_ahead_of_its_row_and_below(self):
        program = make([("out", "x"), ("block", [("block", [("read", "x")])]), ("let", "x", "x")])
        self.assertEqual([program.meaning(use) for use in program.uses()], program.declarations() * 3)

    def test_names(self):
        tree = [("let", "first", 1), ("let", "second", "first"), ("def", "third", ("fourth",), [])]
        names = {"first": "x", "fourth": "x", "nobody": 7, "third": "p"}
        kept = dict(names)
        program = make(tree, names=names)
        self.assertEqual(list(program.names().values()), ["x", "second", "p", "x"])
        self.assertEqual(names, kept)
        self.assertEqual(list(make(tree).names().values()), ["first", "second", "third", "fourth"])
        self.assertEqual(make(tree, names={}), make(tree, names=None))

    def test_names_may_be_wrong_and_meanings_stay(self):
        tree = [("let", "x", 1), ("let", "y", 2), ("block", [("let", "z", 3), ("out", "x"), ("out", "y")])]
        program = make(tree, names={"y": "x", "z": "x"})
        self.assertEqual(list(program.names().values()), ["x", "x", "x"])
        one, other, _ = program.declarations()
        self.assertEqual([program.meaning(use) for use in program.uses()], [one, other])

    def test_long_labels_with_names(self):
        tree = [("let", "longlabel", 1), ("let", "let", "longlabel")]
        program = make(tree, names={"longlabel": "x", "let": "y"})
        self.assertEqual(list(program.names().values()), ["x", "y"])

    def test_tuples_in_the_place_of_lists(self):
        for seed in range(20):
            tree = random_tree(seed)
            self.assertEqual(make(with_tuples(tree)), make(tree))

    def test_the_tree_stays(self):
        tree = random_tree(8)
        make(tree)
        self.assertEqual(tree, random_tree(8))

    def test_by_name(self):
        self.assertEqual(make(tree=[], names=None, owner=""), empty_program())
        with self.assertRaises(TypeError):
            make([], {})


class WrongTreesTest(unittest.TestCase):
    def test_duplicate(self):
        for tree, label in (
            ([("let", "x", 1), ("let", "y", 1), ("let", "y", 1), ("let", "x", 1)], "y"),
            ([("let", "x", 1), ("block", [("let", "x", 2)])], "x"),
            ([("def", "p", ("a", "b", "a"), [])], "a"),
            ([("def", "p", ("p",), [])], "p"),
            ([("def", "p", ("a", "b"), [("let", "b", 1), ("let", "a", 1)])], "b"),
            ([("if", 1, [("let", "u", 1)], [("let", "v", 1), ("let", "u", 1)]), ("let", "v", 1)], "u"),
        ):
            with self.assertRaises(DuplicateName) as caught:
                make(tree)
            self.assertEqual(caught.exception.name, label)

    def test_duplicate_labels_with_different_names(self):
        with self.assertRaises(DuplicateName):
            make([("let", "x", 1), ("let", "x", 2)], names={"x": "y"})

    def test_unknown(self):
        for tree, label in (
            ([("out", "x")], "x"),
            ([("let", "x", "y"), ("out", "z")], "y"),
            ([("set", "u", "v")], "u"),
            ([("do", "p", ("v",))], "p"),
            ([("let", "x", 1), ("out", ("+", ("*", "x", "w"), "v"))], "w"),
            ([("def", "p", ("a",), [("out", "a"), ("read", "b")])], "b"),
            ([("if", 1, [("block", [("out", "u")])], [("out", "v")])], "u"),
        ):
            with self.assertRaises(UnknownName) as caught:
                make(tree)
            self.assertEqual(caught.exception.name, label)

    def test_names_declare_nothing(self):
        with self.assertRaises(UnknownName) as caught:
            make([("let", "x", 1), ("out", "y")], names={"x": "y"})
        self.assertEqual(caught.exception.name, "y")

    def test_misused_and_out_of_reach(self):
        procedure = ("def", "p", ("a",), [])
        for tree, error, use in (
            ([procedure, ("out", "p")], Misused, 6),
            ([procedure, ("do", "p", ())], Misused, 6),
            ([procedure, ("do", "p", (1, 2))], Misused, 6),
            ([("let", "x", 1), ("do", "x", ())], Misused, 5),
            ([procedure, ("out", "a")], OutOfReach, 6),
            ([("block", [("let", "x", 1)]), ("read", "x")], OutOfReach, 7),
            ([("block", [("let", "x", 1)]), ("block", [("read", "x")])], OutOfReach, 9),
            ([("block", [procedure]), ("out", "p"), ("out", "a")], Misused, 8),
            ([("block", [procedure]), ("out", "a"), ("out", "p")], OutOfReach, 8),
        ):
            with self.assertRaises(error) as caught:
                make(tree)
            self.assertEqual(caught.exception.use, ("", use))

    def test_the_owner_of_the_use(self):
        with self.assertRaises(OutOfReach) as caught:
            make([("out", "x"), ("block", [("let", "x", 1)])], owner="ann")
        self.assertEqual(caught.exception.use, ("ann", 2))

    def test_invalid_names(self):
        for value in odd_values():
            with self.assertRaises(InvalidName) as caught:
                make([("let", "x", 1), ("let", "y", 1), ("let", "tolongbyfar", 1)], names={"y": value})
            self.assertIs(caught.exception.value, value)

    def test_invalid_labels(self):
        for tree, value in (
            ([("let", "toolong", 1)], "toolong"),
            ([("let", "x", 1), ("def", "p", ("repeat",), []), ("let", "toolong", 1)], "repeat"),
            ([("let", "if", 1), ("let", "else", 1)], "if"),
        ):
            with self.assertRaises(InvalidName) as caught:
                make(tree)
            self.assertEqual(caught.exception.value, value)

    def test_several_at_once(self):
        duplicate = ("let", "x", 1)
        unknown = ("out", "nobody")
        misused = ("do", "x", ())
        beyond = ("out", "y")
        invalid = ("let", "toolong", 1)
        start = [("let", "x", 1), ("block", [("let", "y", 1)])]
        rows = [(invalid, InvalidName), (beyond, OutOfReach), (misused, Misused), (unknown, UnknownName),
                (duplicate, DuplicateName)]
        tree = list(start)
        for row, error in rows:
            # The later kind of fault stands ahead, and still the other one is raised.
            if error is Misused:
                tree = [start[0], start[1], invalid]
            tree.append(row)
            with self.assertRaises(error):
                make(tree)
        with self.assertRaises(OutOfReach):
            make([*start, beyond, misused])
        with self.assertRaises(Misused):
            make([*start, misused, beyond])


if __name__ == "__main__":
    unittest.main()
