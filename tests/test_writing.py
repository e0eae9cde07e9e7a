import inspect
import random
import unittest

from piercednames.making import make
from piercednames.texts import read_text
from piercednames.words import fresh_names
from piercednames.writing import expression_text, listing, program_text
from tests import reference
from tests.samples import SIGNS, empty_program, random_program, random_tree

TEXT = """let x = 1
def p(a, b) {
  if a < 3 {
    out (a + b) * 2
  } else {
    do p(a, b - 1)
  }
  if b {
    read a
  }
}
def q() {
}
do q()
repeat x {
  block {
    set x = x - (3 - x)
  }
}
"""


def shown(expression):
    """The text of an expression of a tree, as it stands in a program."""
    program = make([("let", "x", 1), ("let", "y", 2), ("out", expression)])
    return expression_text(program, program.content(program.rows()[2])[1])


class ProgramTextTest(unittest.TestCase):
    def test_empty(self):
        self.assertEqual(program_text(empty_program()), "")

    def test_sample(self):
        self.assertEqual(program_text(read_text(TEXT)), TEXT)
        self.assertEqual(program_text(read_text(TEXT.replace("  ", "").replace(" = ", "="))), TEXT)

    def test_else_is_written_exactly_if_there_are_rows(self):
        table = [
            (([], []), "if 1 {\n}\n"), (([("out", 2)], []), "if 1 {\n  out 2\n}\n"),
            (([], [("out", 2)]), "if 1 {\n} else {\n  out 2\n}\n"),
            (([("out", 2)], [("out", 3)]), "if 1 {\n  out 2\n} else {\n  out 3\n}\n"),
        ]
        for halves, text in table:
            self.assertEqual(program_text(make([("if", 1, *halves)])), text)

    def test_against_reference(self):
        for seed in range(60):
            tree = random_tree(seed)
            self.assertEqual(program_text(make(tree)), reference.written(tree))

    def test_written_and_read_again(self):
        for seed in range(60):
            program = random_program(seed, owner="ann")
            text = program_text(program)
            again = read_text(text, owner="ann")
            self.assertEqual(again, program)
            self.assertEqual(program_text(again), text)

    def test_programs_as_large_as_allowed(self):
        for seed in range(10):
            program = random_program(seed, rows=120, depth=12)
            self.assertEqual(read_text(program_text(program)), program)

    def test_present_names_are_written_even_if_they_are_wrong(self):
        program = make([("let", "x", 1), ("block", [("let", "y", "x"), ("out", ("+", "x", "y"))])])
        wrong = program.renamed(dict.fromkeys(program.declarations(), "z"))
        self.assertEqual(program_text(wrong), "let z = 1\nblock {\n  let z = z\n  out z + z\n}\n")
        names = dict(zip(program.declarations(), fresh_names(2, [])))
        self.assertEqual(program_text(program.renamed(names)), "let a = 1\nblock {\n  let b = a\n  out a + b\n}\n")

    def test_rows_are_written_in_their_order(self):
        program = make([("out", 1), ("out", 2)])
        root, rows, names, meanings, values = program.state()
        first, second = rows
        rows[first] = (root, (9, 2), rows[first][2])
        moved = type(program)(root, rows, names, meanings, values)
        self.assertEqual(program_text(moved), "out 2\nout 1\n")
        self.assertEqual(list(listing(moved)), ["        .3 out 2", "        .1 out 1"])


class ExpressionTextTest(unittest.TestCase):
    def test_leaves(self):
        self.assertEqual(shown(0), "0")
        self.assertEqual(shown(999999), "999999")
        self.assertEqual(shown("x"), "x")

    def test_the_least_parentheses(self):
        tight = {"*": 3, "+": 2, "-": 2, "<": 1}
        for outer in SIGNS:
            for inner in SIGNS:
                left = f"1 {inner} x" if tight[inner] >= tight[outer] else f"(1 {inner} x)"
                right = f"1 {inner} x" if tight[inner] > tight[outer] else f"(1 {inner} x)"
                self.assertEqual(shown((outer, (inner, 1, "x"), 2)), f"{left} {outer} 2")
                self.assertEqual(shown((outer, 2, (inner, 1, "x"))), f"2 {outer} {right}")

    def test_deeper_ones(self):
        table = {
            ("-", ("-", 1, 2), ("-", 3, 4)): "1 - 2 - (3 - 4)",
            ("*", ("*", 1, ("+", 2, 3)), ("*", 4, 5)): "1 * (2 + 3) * (4 * 5)",
            ("<", ("<", 1, ("<", 2, 3)), ("+", 4, ("*", 5, 6))): "1 < (2 < 3) < 4 + 5 * 6",
            ("+", ("<", 1, 2), ("*", ("-", 3, 4), 5)): "(1 < 2) + (3 - 4) * 5",
            ("*", ("<", ("+", 1, 2), 3), 4): "(1 + 2 < 3) * 4",
        }
        for expression, text in table.items():
            self.assertEqual(shown(expression), text)

    def test_no_parentheses_can_be_left_out(self):
        source = random.Random(5)
        for _ in range(100):
            expression = random_expression(source, 4)
            text = shown(expression)
            self.assertEqual(text, reference.expression_text(expression, {}))
            program = make([("let", "x", 1), ("let", "y", 2), ("out", expression)])
            self.assertEqual(read_text("let x = 1\nlet y = 2\nout " + text), program)
            for start in [k for k in range(len(text)) if text[k] == "("]:
                shorter = without_parentheses(text, start)
                self.assertNotEqual(read_text("let x = 1\nlet y = 2\nout " + shorter), program)

    def test_parts_of_a_program(self):
        program = read_text("let x = 1\ndo p(x + 2, (x < 3) * x)\ndef p(a, b) {\n}\n")
        arguments = program.content(program.rows()[1])[2]
        self.assertEqual([expression_text(program, one) for one in arguments], ["x + 2", "(x < 3) * x"])
        self.assertEqual(expression_text(program=program, expression=arguments[1][1]), "x < 3")


def random_expression(source, depth):
    if depth == 0 or source.random() < 0.25:
        return source.choice([1, "x", "y", 20])
    return (source.choice(SIGNS), random_expression(source, depth - 1), random_expression(source, depth - 1))


def without_parentheses(text, start):
    depth = 0
    for end in range(start, len(text)):
        depth += {"(": 1, ")": -1}.get(text[end], 0)
        if depth == 0:
            return text[:start] + text[start + 1:end] + text[end + 1:]
    raise AssertionError(text)


class ListingTest(unittest.TestCase):
    def test_sample(self):
        wanted = [
            "        .1 let x = 1",
            "        .4 def p(a, b) {",
            "        .9   if a < 3 {",
            "       .13     out (a + b) * 2",
            "             } else {",
            "       .18     do p(a, b - 1)",
            "             }",
            "       .23   if b {",
            "       .26     read a",
            "             }",
            "           }",
            "       .29 def q() {",
            "           }",
        ]
        found = list(listing(read_text(TEXT)))
        self.assertEqual(found[:len(wanted)], wanted)
        self.assertEqual([line[11:] for line in found], TEXT.split("\n")[:-1])

    def test_it_is_a_generator_that_begins_anew(self):
        program = read_text(TEXT)
        one = listing(program)
        self.assertTrue(inspect.isgenerator(one))
        first = next(one)
        other = listing(program)
        self.assertEqual(next(other), first)
        self.assertEqual(list(other), list(one))
        self.assertEqual(list(listing(program)), [first, *list(listing(program))[1:]])
        self.assertEqual(list(one), [])

    def test_empty(self):
        self.assertEqual(list(listing(empty_program())), [])

    def test_ids_of_other_owners(self):
        program = read_text("block {\nout 1\n}\n", owner="ann")
        self.assertEqual(list(listing(program)), ["     ann.1 block {", "     ann.3   out 1", "           }"])
        program = read_text("out 1\n" * 120, owner="abcdef")
        lines = list(listing(program))
        self.assertEqual(lines[0], "  abcdef.1 out 1")
        self.assertEqual(lines[-1], "abcdef.239 out 1")

    def test_long_ids(self):
        rows = {("abcdef", 1234567): (("", 0), (1, 1), ("out", ("number", ("", 2))))}
        program = type(empty_program())(("", 0), rows, {}, {}, {("", 2): 5})
        self.assertEqual(list(listing(program=program)), ["abcdef.1234567 out 5"])

    def test_lines_are_those_of_the_text(self):
        for seed in range(30):
            program = random_program(seed)
            lines = list(listing(program))
            self.assertEqual("".join(line[11:] + "\n" for line in lines), program_text(program))
            ids = [line[:10].strip() for line in lines if line[11:].strip()[:1] != "}"]
            self.assertEqual(ids, ["." + str(row[1]) for row in program.rows()])
            self.assertEqual({line[:11] for line in lines if line[11:].strip()[:1] == "}"} - {" " * 11}, set())


if __name__ == "__main__":
    unittest.main()
