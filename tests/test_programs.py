import random
import unittest

from piercednames.contents import copied
from piercednames.errors import InvalidName, Lost, Misused, OutOfReach, UnknownId
from piercednames.making import make
from piercednames.programs import Program, alike
from tests import reference
from tests.samples import empty_program, odd_values, random_program, random_tree

# The root declares x, 1, and a procedure p with a and b; an if and a repeat have further blocks.
TREE = [
    ("let", "x", 1),
    ("def", "p", ("a", "b"), [("set", "a", ("+", "b", 2)), ("do", "p", ("a", ("*", "x", 3)))]),
    ("if", ("<", "x", 5), [("let", "y", "x"), ("out", "y")], [("read", "x")]),
    ("repeat", "x", [("block", [("out", 7)])]),
    ("do", "p", (4, "x")),
]
ROOT = ("", 0)


def sample():
    return make(TREE)


def at(number):
    return ("", number)


def parts(program, **changes):
    """The arguments of the constructor, with some of them changed."""
    root, rows, names, meanings, values = program.state()
    given = {"root": root, "rows": rows, "names": names, "meanings": meanings, "values": values}
    given.update(changes)
    return given


def shuffled(table, seed):
    keys = list(table)
    random.Random(seed).shuffle(keys)
    return {key: table[key] for key in keys}


def rebuilt(program, seed, positions):
    """The program from dicts in another order, with new positions in the same order of rows."""
    source = random.Random(seed)
    root, rows, names, meanings, values = program.state()
    if positions:
        for block in program.blocks():
            place = 0
            for row in program.rows_of(block):
                place += source.randint(1, 9)
                rows[row] = (block, eighths(place * 8 + source.randint(0, 7)), rows[row][2])
    tables = [shuffled(table, seed + k) for k, table in enumerate((rows, names, meanings, values))]
    return Program(root, *tables)


def eighths(over):
    """The position of so many eighths."""
    under = 8
    while over % 2 == 0 and under > 1:
        over, under = over // 2, under // 2
    return (over, under)


class ReadingOrderTest(unittest.TestCase):
    def test_sample(self):
        program = sample()
        kinds = [program.kind_of(thing) for thing in program.things()]
        self.assertEqual(program.things(), [at(number) for number in range(len(kinds))])
        self.assertEqual(
            kinds,
            "block row declaration number".split()
            + "row declaration block declaration declaration".split()
            + "row use use number row use use use number".split()
            + "row use number block row declaration use row use block row use".split()
            + "row use block row block row number".split()
            + "row use number use".split(),
        )

    def test_lists_of_one_kind(self):
        program = sample()
        for kind, listed in (
            ("block", program.blocks()), ("row", program.rows()), ("declaration", program.declarations()),
            ("use", program.uses()), ("number", program.numerals()),
        ):
            self.assertEqual(listed, [thing for thing in program.things() if program.kind_of(thing) == kind])

    def test_empty_program(self):
        program = empty_program()
        self.assertEqual(program.things(), [ROOT])
        self.assertEqual(program.blocks(), [ROOT])
        self.assertEqual((program.rows(), program.declarations(), program.uses(), program.numerals()), ([], [], [], []))
        self.assertEqual(program.state(), (ROOT, {}, {}, {}, {}))
        self.assertEqual(program.rows_of(ROOT), [])
        self.assertEqual(program.names(), {})

    def test_returned_lists_and_dicts_are_new(self):
        program = sample()
        kept = sample()
        for result in (
            program.things(), program.blocks(), program.rows(), program.declarations(), program.uses(),
            program.numerals(), program.names(), program.rows_of(ROOT), program.path(at(6)), program.uses_of(at(2)),
            program.parameters(at(5)), *program.state()[1:],
        ):
            result.clear()
        self.assertEqual(program, kept)
        self.assertEqual(program.things(), kept.things())
        self.assertEqual(program.blocks(), kept.blocks())
        self.assertEqual(program.rows_of(ROOT), kept.rows_of(ROOT))
        self.assertEqual(program.path(at(6)), kept.path(at(6)))
        self.assertEqual(program.uses_of(at(2)), kept.uses_of(at(2)))
        self.assertEqual(program.parameters(at(5)), kept.parameters(at(5)))

    def test_rows_by_positions_and_ids(self):
        content = ("out", ("number", ("", 9)))
        rows = {
            ("", 1): (ROOT, (2, 1), ("out", ("number", ("", 11)))),
            ("", 2): (ROOT, (3, 2), ("out", ("number", ("", 12)))),
            ("zed", 1): (ROOT, (1, 1), ("out", ("number", ("", 13)))),
            ("ann", 10): (ROOT, (1, 1), ("out", ("number", ("", 14)))),
            ("ann", 9): (ROOT, (1, 1), content),
        }
        values = {("", number): number for number in (9, 11, 12, 13, 14)}
        program = Program(ROOT, rows, {}, {}, values)
        wanted = [("ann", 9), ("ann", 10), ("zed", 1), ("", 2), ("", 1)]
        self.assertEqual(program.rows_of(ROOT), wanted)
        self.assertEqual(program.rows(), wanted)
        self.assertEqual(program.numerals(), [("", number) for number in (9, 14, 13, 12, 11)])

    def test_against_reference(self):
        for seed in range(60):
            program = rebuilt(random_program(seed, owner="ann"), seed, True)
            found = reference.order(program.state())
            self.assertEqual(program.things(), [thing for _, thing, _, _ in found])
            for kind, thing, block, row in found:
                self.assertEqual(program.kind_of(thing), kind)
                if kind == "block":
                    self.assertEqual(program.parent(thing), block)
                else:
                    self.assertEqual(program.block_of(thing), block)
                if kind != "row":
                    self.assertEqual(program.row_of(thing), row)


class QuestionsTest(unittest.TestCase):
    def test_rows_and_blocks(self):
        program = sample()
        self.assertEqual(program.root, ROOT)
        self.assertEqual(program.rows_of(ROOT), [at(1), at(4), at(18), at(30), at(37)])
        self.assertEqual(program.rows_of(at(6)), [at(9), at(13)])
        self.assertEqual(program.rows_of(at(27)), [at(28)])
        self.assertEqual(program.content(at(1)), ("let", at(2), ("number", at(3))))
        self.assertEqual(program.content(at(4)), ("def", at(5), (at(7), at(8)), at(6)))
        self.assertEqual(program.position(at(1)), (1, 1))
        self.assertEqual(program.position(at(37)), (5, 1))
        self.assertEqual(program.position(at(13)), (2, 1))

    def test_where_things_stand(self):
        program = sample()
        self.assertEqual(program.block_of(at(1)), ROOT)
        self.assertEqual(program.block_of(at(5)), ROOT)
        self.assertEqual([program.block_of(at(7)), program.block_of(at(8))], [at(6), at(6)])
        self.assertEqual(program.block_of(at(19)), ROOT)
        self.assertEqual(program.block_of(at(31)), ROOT)
        self.assertEqual(program.block_of(at(23)), at(21))
        self.assertEqual(program.row_of(at(7)), at(4))
        self.assertEqual(program.row_of(at(6)), at(4))
        self.assertEqual(program.row_of(at(27)), at(18))
        self.assertEqual(program.row_of(at(20)), at(18))
        self.assertIsNone(program.row_of(ROOT))

    def test_upward(self):
        program = sample()
        self.assertIsNone(program.parent(ROOT))
        self.assertEqual(program.parent(at(32)), ROOT)
        self.assertEqual(program.parent(at(34)), at(32))
        self.assertEqual(program.path(at(34)), [at(34), at(32), ROOT])
        self.assertEqual(program.path(ROOT), [ROOT])
        self.assertEqual([program.depth(thing) for thing in (ROOT, at(6), at(32), at(34))], [0, 1, 1, 2])

    def test_names_meanings_values(self):
        program = sample()
        self.assertEqual(program.names(), {at(2): "x", at(5): "p", at(7): "a", at(8): "b", at(23): "y"})
        self.assertEqual(list(program.names()), program.declarations())
        self.assertEqual(program.name_of(at(23)), "y")
        self.assertEqual(program.meaning(at(14)), at(5))
        self.assertEqual(program.meaning(at(11)), at(8))
        self.assertEqual(program.value_of(at(12)), 2)
        self.assertEqual(program.uses_of(at(2)), [at(16), at(19), at(24), at(29), at(31), at(40)])
        self.assertEqual(program.uses_of(at(5)), [at(14), at(38)])
        self.assertEqual(make([("let", "x", 1)]).uses_of(at(2)), [])

    def test_procedures(self):
        program = sample()
        self.assertEqual(program.parameters(at(5)), [at(7), at(8)])
        self.assertEqual(program.body(at(5)), at(6))
        for variable in (at(2), at(7), at(8), at(23)):
            self.assertIsNone(program.parameters(variable))
            self.assertIsNone(program.body(variable))
        self.assertEqual(make([("def", "p", (), [])]).parameters(at(2)), [])

    def test_fits(self):
        program = make([
            ("let", "x", 1), ("def", "p", (), []), ("def", "q", ("a",), []), ("def", "r", ("b",), []),
            ("do", "p", ()), ("do", "q", ("x",)), ("read", "x"),
        ])
        by_name = {program.name_of(thing): thing for thing in program.declarations()}
        call_p, call_q, argument, plain = program.uses()
        fitting = {call_p: ["p"], call_q: ["q", "r"], argument: ["x", "a", "b"], plain: ["x", "a", "b"]}
        for use in fitting:
            found = [name for name in sorted(by_name) if program.fits(use, by_name[name])]
            self.assertEqual(found, sorted(fitting[use]))

    def test_reaches(self):
        program = sample()
        reached = {thing: [block for block in program.blocks() if program.reaches(block, thing)]
                   for thing in program.declarations()}
        self.assertEqual(reached, {
            at(2): program.blocks(), at(5): program.blocks(), at(7): [at(6)], at(8): [at(6)], at(23): [at(21)],
        })

    def test_state_leads_to_an_equal_program(self):
        for seed in range(20):
            program = random_program(seed)
            state = program.state()
            self.assertEqual(Program(*state), program)
            self.assertEqual([list(table) for table in state[1:]], [
                program.rows(), program.declarations(), program.uses(), program.numerals(),
            ])
            other = rebuilt(program, seed, False)
            self.assertEqual(other.state(), state)
            self.assertEqual([list(table) for table in other.state()[1:]], [list(table) for table in state[1:]])


class UnknownIdTest(unittest.TestCase):
    def check(self, call, wrong):
        for value in wrong:
            with self.assertRaises(UnknownId) as caught:
                call(value)
            self.assertIs(caught.exception.thing, value)

    def test_kind_of(self):
        program = sample()
        for value in odd_values() + [("", 41), ("ann", 2), "block", "row"]:
            self.assertIsNone(program.kind_of(value), value)

    def test_each_method_with_each_wrong_value(self):
        program = sample()
        kinds = {
            "block": (program.rows_of, program.parent, program.path, program.depth),
            "row": (program.content, program.position),
            "declaration": (program.name_of, program.uses_of, program.parameters, program.body),
            "use": (program.meaning,),
            "number": (program.value_of,),
        }
        for kind, methods in kinds.items():
            wrong = [thing for thing in program.things() if program.kind_of(thing) != kind] + odd_values()
            for method in methods:
                self.check(method, wrong)
        self.check(program.block_of, program.blocks() + odd_values())
        self.check(program.row_of, program.rows() + odd_values())

    def test_fits_and_reaches(self):
        program = sample()
        use, declaration, block = program.uses()[0], program.declarations()[0], ROOT
        others = [thing for thing in program.things() if program.kind_of(thing) != "declaration"]
        self.check(lambda value: program.fits(use, value), others + odd_values())
        self.check(lambda value: program.reaches(block, value), others + odd_values())
        self.check(lambda value: program.fits(value, None), program.declarations() + odd_values())
        self.check(lambda value: program.fits(value, declaration), program.declarations() + odd_values())
        self.check(lambda value: program.reaches(value, "x"), program.uses() + odd_values())
        self.check(lambda value: program.reaches(value, declaration), program.uses() + odd_values())

    def test_by_name(self):
        program = sample()
        self.assertEqual(program.rows_of(block=at(6)), [at(9), at(13)])
        self.assertEqual(program.content(row=at(1))[0], "let")
        self.assertEqual(program.kind_of(thing=ROOT), "block")
        self.assertIs(program.fits(use=at(14), declaration=at(5)), True)
        self.assertIs(program.reaches(block=ROOT, declaration=at(7)), False)


class ConstructorTest(unittest.TestCase):
    def test_lost(self):
        program = sample()
        for meaning in odd_values() + program.rows() + program.blocks() + program.uses() + program.numerals():
            meanings = program.state()[3]
            meanings[at(19)] = meaning
            with self.assertRaises(Lost) as caught:
                Program(**parts(program, meanings=meanings))
            self.assertEqual(caught.exception.use, at(19))

    def test_misused(self):
        program = sample()
        cases = [(at(19), at(5)), (at(10), at(5)), (at(38), at(2)), (at(14), at(7)), (at(39 + 1), at(5))]
        for use, meaning in cases:
            meanings = program.state()[3]
            meanings[use] = meaning
            with self.assertRaises(Misused) as caught:
                Program(**parts(program, meanings=meanings))
            self.assertEqual(caught.exception.use, use)

    def test_misused_by_the_number_of_arguments(self):
        program = make([("def", "p", ("a",), []), ("def", "q", (), []), ("do", "p", (1,)), ("do", "q", ())])
        first, second = program.declarations()[0], program.declarations()[2]
        one, other = program.uses()
        for use, meaning in ((one, second), (other, first)):
            meanings = program.state()[3]
            meanings[use] = meaning
            with self.assertRaises(Misused) as caught:
                Program(**parts(program, meanings=meanings))
            self.assertEqual(caught.exception.use, use)

    def test_out_of_reach(self):
        program = sample()
        for use, meaning in ((at(19), at(23)), (at(29), at(23)), (at(31), at(7)), (at(26), at(8)), (at(40), at(8))):
            meanings = program.state()[3]
            meanings[use] = meaning
            with self.assertRaises(OutOfReach) as caught:
                Program(**parts(program, meanings=meanings))
            self.assertEqual(caught.exception.use, use)

    def test_the_expression_of_an_if_or_repeat_stands_outside_of_its_blocks(self):
        for tree in (
            [("if", "x", [("let", "x", 1)], [])], [("if", "x", [], [("let", "x", 1)])],
            [("repeat", ("+", 1, "x"), [("let", "x", 1)])],
        ):
            with self.assertRaises(OutOfReach):
                make(tree)

    def test_the_first_use_counts(self):
        program = sample()
        wrong = {Lost: None, Misused: at(5), OutOfReach: at(23)}
        uses = [at(11), at(19), at(31)]
        for first in wrong:
            for second in wrong:
                meanings = shuffled(program.state()[3], 7)
                meanings[uses[1]] = wrong[second]
                meanings[uses[0]] = wrong[first]
                meanings[uses[2]] = None
                with self.assertRaises(first) as caught:
                    Program(**parts(program, meanings=meanings))
                self.assertEqual(caught.exception.use, uses[0])

    def test_misused_ahead_of_out_of_reach_for_one_use(self):
        program = make([("block", [("def", "p", (), [])]), ("let", "x", 1), ("out", "x")])
        meanings = {program.uses()[0]: program.declarations()[0]}
        with self.assertRaises(Misused):
            Program(**parts(program, meanings=meanings))

    def test_passed_dicts_are_copied_and_stay(self):
        program = sample()
        state = program.state()
        kept = program.state()
        other = Program(*state)
        self.assertEqual(state, kept)
        for table in state[1:]:
            table.clear()
        self.assertEqual(other, program)
        self.assertEqual(other.state(), kept)

    def test_wrong_names_may_stand(self):
        program = make([("let", "x", 1), ("let", "y", 2), ("block", [("out", "x"), ("let", "z", 1)])])
        names = dict.fromkeys(program.declarations(), "x")
        self.assertEqual(Program(**parts(program, names=names)).names(), names)


class ChangedTest(unittest.TestCase):
    def test_renamed(self):
        program = sample()
        changes = {at(23): "x", at(5): "q"}
        kept = dict(changes)
        other = program.renamed(changes)
        self.assertEqual(changes, kept)
        self.assertEqual(other.names(), {at(2): "x", at(5): "q", at(7): "a", at(8): "b", at(23): "x"})
        self.assertEqual(list(other.names()), other.declarations())
        self.assertEqual(program, sample())
        self.assertEqual(other.renamed({at(23): "y", at(5): "p"}), program)
        self.assertEqual([other.state()[k] for k in (0, 1, 3, 4)], [program.state()[k] for k in (0, 1, 3, 4)])
        self.assertEqual(program.renamed({}), program)

    def test_renamed_unknown(self):
        program = sample()
        wrong = {("zed", 1): "let", at(5): 7, at(1): "x", ("ann", 3): "x", at(2): "y"}
        with self.assertRaises(UnknownId) as caught:
            program.renamed(wrong)
        self.assertEqual(caught.exception.thing, at(1))
        with self.assertRaises(UnknownId) as caught:
            program.renamed({("zed", 1): "x", ("ann", 3): "x", at(2): "y"})
        self.assertEqual(caught.exception.thing, ("ann", 3))
        with self.assertRaises(UnknownId) as caught:
            program.renamed({at(9999): "x", at(2): "let"})
        self.assertEqual(caught.exception.thing, at(9999))

    def test_renamed_invalid(self):
        program = sample()
        for value in odd_values():
            with self.assertRaises(InvalidName) as caught:
                program.renamed({at(23): "let", at(8): value, at(2): "good"})
            self.assertIs(caught.exception.value, value)
        self.assertEqual(program, sample())

    def test_respaced(self):
        for seed in range(20):
            program = random_program(seed)
            moved = rebuilt(program, seed, True)
            kept = moved.state()
            self.assertEqual(moved.respaced(), program)
            self.assertEqual(moved.state(), kept)
            self.assertEqual(program.respaced(), program)
            for block in moved.blocks():
                rows = moved.rows_of(block)
                self.assertEqual([moved.respaced().position(row) for row in rows],
                                 [(k + 1, 1) for k in range(len(rows))])

    def test_respaced_rows_with_equal_positions(self):
        rows = {("", n): (ROOT, (5, 4), ("out", ("number", ("", 10 + n)))) for n in (3, 1, 2)}
        program = Program(ROOT, rows, {}, {}, {("", 10 + n): n for n in (1, 2, 3)}).respaced()
        self.assertEqual([program.position(("", n)) for n in (1, 2, 3)], [(1, 1), (2, 1), (3, 1)])


class ComparisonTest(unittest.TestCase):
    def test_equal(self):
        program = sample()
        self.assertTrue(program == sample())
        self.assertFalse(program != sample())
        self.assertTrue(program == rebuilt(program, 3, False))

    def test_unequal(self):
        program = sample()
        state = program.state()
        rows = dict(state[1])
        rows[at(37)] = (ROOT, (11, 2), rows[at(37)][2])
        values = dict(state[4])
        values[at(3)] = 2
        meanings = dict(state[3])
        meanings[at(11)] = at(7)
        for other in (
            Program(**parts(program, rows=rows)), Program(**parts(program, values=values)),
            Program(**parts(program, meanings=meanings)), program.renamed({at(2): "z"}), make(TREE, owner="ann"),
            empty_program(), Program(("ann", 0), {}, {}, {}, {}),
        ):
            self.assertFalse(program == other)
            self.assertFalse(other == program)
            self.assertTrue(program != other)
        self.assertFalse(empty_program() == Program(("ann", 0), {}, {}, {}, {}))

    def test_contents_are_told_apart(self):
        trees = [
            [("out", expression)] for expression in (
                1, 2, ("+", 1, 2), ("-", 1, 2), ("+", ("+", 1, 2), 3), ("+", 1, ("+", 2, 3)), ("-", ("+", 1, 2), 3),
            )
        ]
        trees += [[("if", 1, [], [])], [("repeat", 1, [])], [("block", [])], [("def", "p", (), [])]]
        trees += [[("let", "x", 1)], [("let", "x", 1), ("read", "x")], [("let", "x", 1), ("out", "x")]]
        trees += [[("def", "p", ("a",), [])], [("def", "p", (), []), ("do", "p", ())]]
        programs = [make(tree) for tree in trees]
        for one in range(len(programs)):
            for other in range(len(programs)):
                self.assertIs(programs[one] == programs[other], one == other)
                self.assertIs(alike(programs[one], programs[other]), one == other)

    def test_other_classes(self):
        program = sample()
        for value in odd_values()[:-10] + [program.state(), repr(program)]:
            self.assertFalse(program == value)

    def test_len_truth_and_repr(self):
        program = sample()
        self.assertEqual(len(program), 12)
        self.assertEqual(repr(program), "Program(12 rows, 5 declarations)")
        one = make([("let", "x", 1)])
        self.assertEqual((len(one), repr(one)), (1, "Program(1 rows, 1 declarations)"))
        self.assertEqual(len(empty_program()), 0)
        self.assertIs(bool(empty_program()), True)
        self.assertEqual(repr(empty_program()), "Program(0 rows, 0 declarations)")


def with_new_ids(program, seed):
    """The program with other ids and positions."""
    things = program.things()
    numbers = list(range(len(things)))
    random.Random(seed).shuffle(numbers)
    ids = {thing: ("bob", number) for thing, number in zip(things, numbers)}
    root, rows, names, meanings, values = rebuilt(program, seed, True).state()
    return Program(
        ids[root],
        {ids[row]: (ids[block], position, copied(content, ids)) for row, (block, position, content) in rows.items()},
        {ids[thing]: name for thing, name in names.items()},
        {ids[use]: ids[meaning] for use, meaning in meanings.items()},
        {ids[thing]: value for thing, value in values.items()},
    )


class AlikeTest(unittest.TestCase):
    def both(self, one, other):
        self.assertIs(alike(one, other), alike(other, one))
        return alike(one=one, other=other)

    def test_ids_and_positions_alone(self):
        self.assertTrue(self.both(empty_program(), Program(("ann", 4), {}, {}, {}, {})))
        for seed in range(30):
            program = random_program(seed)
            other = with_new_ids(program, seed)
            self.assertIs(self.both(program, other), True)
            self.assertIs(self.both(program, random_program(seed, owner="zed")), True)
            self.assertIs(self.both(program, program), True)

    def test_what_differs(self):
        changed = [
            [("let", "x", 2), *TREE[1:]],
            [("let", "z", 1), *[row for row in make_with("z")]],
            TREE[:-1],
            [*TREE, ("block", [])],
            [*TREE[:3], ("repeat", 1, [("block", [("out", 7)])]), TREE[4]],
            [*TREE[:3], ("repeat", "x", [("block", []), ("out", 7)]), TREE[4]],
            [*TREE[:4], ("do", "p", ("x", 4))],
            [*TREE[:2], ("if", ("+", "x", 5), *TREE[2][2:]), *TREE[3:]],
            [*TREE[:2], ("if", ("<", "x", 5), [("let", "y", "y"), ("out", "y")], [("read", "x")]), *TREE[3:]],
            [*TREE[:2], ("if", ("<", "x", 5), [("let", "y", "x"), ("out", "y"), ("read", "x")], []), *TREE[3:]],
            [TREE[1], TREE[0], *TREE[2:]],
        ]
        program = sample()
        for tree in changed:
            self.assertIs(self.both(program, make(tree)), False)

    def test_the_grouping_of_rows_in_halves(self):
        one = make([("if", 1, [("block", [])], [])])
        other = make([("if", 1, [], [("block", [])])])
        self.assertIs(self.both(one, other), False)

    def test_meanings_with_one_name(self):
        tree = [("let", "x", 1), ("block", [("let", "y", 1), ("out", "x")])]
        other = [("let", "x", 1), ("block", [("let", "y", 1), ("out", "y")])]
        names = {"y": "x"}
        self.assertIs(self.both(make(tree, names=names), make(other, names=names)), False)

    def test_random_trees(self):
        programs = [random_program(seed, rows=4, depth=1) for seed in range(40)]
        for one in programs:
            for other in programs:
                if alike(one, other):
                    self.assertEqual(one.names(), other.names())
                    self.assertEqual(one.respaced(), other.respaced())
                self.assertIs(self.both(one, other), one == other)

    def test_trees_that_are_made_twice(self):
        self.assertEqual(make(random_tree(5)), make(random_tree(5)))


def make_with(label):
    """The rows of TREE behind the first one, with another label in the place of x."""
    def other(part):
        if isinstance(part, (list, tuple)):
            return type(part)(other(item) for item in part)
        return label if part == "x" else part
    return [other(row) for row in TREE[1:]]


class LargeTest(unittest.TestCase):
    def test_many_nested_blocks(self):
        tree = [("out", "x")]
        for _ in range(300):
            tree = [("block", tree)]
        program = make([("let", "x", 1), *tree])
        deepest = program.blocks()[-1]
        self.assertEqual(program.depth(deepest), 300)
        self.assertEqual(program.path(deepest), program.blocks()[::-1])
        self.assertEqual(program.respaced(), program)
        self.assertTrue(alike(program, with_new_ids(program, 1)))


if __name__ == "__main__":
    unittest.main()
