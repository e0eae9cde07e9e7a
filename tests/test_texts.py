import random
import unittest

from piercednames.errors import BadText
from piercednames.making import make
from piercednames.programs import Program, alike
from piercednames.texts import read_text, scan_text
from piercednames.writing import program_text
from tests import reference
from tests.samples import empty_program, odd_values, random_tree


def fault(text, reader=read_text):
    """The line, place and why of the first fault of a text."""
    try:
        reader(text)
    except BadText as error:
        return (error.line, error.place, error.why)
    return None


class ReadingTest(unittest.TestCase):
    def test_empty_texts(self):
        for text in ("", "\n", "   ", " \n\n  \n"):
            self.assertEqual(read_text(text), empty_program())

    def test_each_form(self):
        text = (
            "let x = 3\nset x = x + 1\nread x\nout (1 - 2) * x\ndef p(a, b) {\n  out a\n}\ndo p(x, 5)\n"
            "if x < 2 {\n  read x\n} else {\n  out 0\n}\nrepeat 4 {\n  read x\n}\nblock {\n  out 9\n}\n"
        )
        tree = [
            ("let", "x", 3), ("set", "x", ("+", "x", 1)), ("read", "x"), ("out", ("*", ("-", 1, 2), "x")),
            ("def", "p", ("a", "b"), [("out", "a")]), ("do", "p", ("x", 5)),
            ("if", ("<", "x", 2), [("read", "x")], [("out", 0)]), ("repeat", 4, [("read", "x")]),
            ("block", [("out", 9)]),
        ]
        self.assertEqual(read_text(text), make(tree))
        self.assertEqual(read_text(text, owner="ann"), make(tree, owner="ann"))
        self.assertEqual(program_text(read_text(text)), text)

    def test_no_parameters_and_no_arguments(self):
        program = read_text("def p(){\n}\ndo p()\ndo p ( )\n")
        self.assertEqual(program, make([("def", "p", (), []), ("do", "p", ()), ("do", "p", ())]))

    def test_an_if_without_else(self):
        program = read_text("if 1 {\nout 2\n}\nout 3\n")
        self.assertEqual(program, make([("if", 1, [("out", 2)], []), ("out", 3)]))
        self.assertEqual(read_text("if 1 {\n} else {\n}"), make([("if", 1, [], [])]))
        nested = "if 1 {\nif 2 {\n} else {\nout 3\n}\n} else {\nout 4\n}\n"
        self.assertEqual(read_text(nested), make([("if", 1, [("if", 2, [], [("out", 3)])], [("out", 4)])]))

    def test_spaces_and_empty_lines(self):
        for text in (
            "let x=1\nout x+2", "  let   x  =  1  \n\n   \nout x  +2 ", "let x=1\n out x+2\n\n\n", "\n\nlet x =1\nout x+ 2",
        ):
            self.assertEqual(read_text(text), make([("let", "x", 1), ("out", ("+", "x", 2))]))
        text = "  def  p ( a ,b)  {  \nif a<1{\n  }else{  \n } \n}\n  do   p(1,2)"
        self.assertEqual(read_text(text), make([("def", "p", ("a", "b"), [("if", ("<", "a", 1), [], [])]), ("do", "p", (1, 2))]))

    def test_tokens_may_touch(self):
        self.assertEqual(read_text("out 1+(2)*3<4"), make([("out", ("<", ("+", 1, ("*", 2, 3)), 4))]))
        self.assertEqual(fault("out 1a"), (0, 5, "form"))
        self.assertEqual(fault("letx = 1"), (0, 0, "form"))

    def test_strengths(self):
        table = {
            "1 + 2 * 3": ("+", 1, ("*", 2, 3)),
            "1 * 2 + 3": ("+", ("*", 1, 2), 3),
            "1 < 2 + 3": ("<", 1, ("+", 2, 3)),
            "1 + 2 < 3": ("<", ("+", 1, 2), 3),
            "1 < 2 * 3": ("<", 1, ("*", 2, 3)),
            "1 - 2 - 3": ("-", ("-", 1, 2), 3),
            "1 - 2 + 3": ("+", ("-", 1, 2), 3),
            "1 + 2 - 3": ("-", ("+", 1, 2), 3),
            "1 * 2 * 3": ("*", ("*", 1, 2), 3),
            "1 < 2 < 3": ("<", ("<", 1, 2), 3),
            "1 - (2 - 3)": ("-", 1, ("-", 2, 3)),
            "(1 + 2) * 3": ("*", ("+", 1, 2), 3),
            "1 * (2 < 3)": ("*", 1, ("<", 2, 3)),
            "((1)) + (((2)))": ("+", 1, 2),
            "(1 < 2) + 3": ("+", ("<", 1, 2), 3),
            "1 + 2 * 3 - 4 < 5 * 6 - 7": ("<", ("-", ("+", 1, ("*", 2, 3)), 4), ("-", ("*", 5, 6), 7)),
            "1 + (2 * (3 - (4 < 5)))": ("+", 1, ("*", 2, ("-", 3, ("<", 4, 5)))),
        }
        for text, expression in table.items():
            self.assertEqual(read_text("out " + text), make([("out", expression)]), text)

    def test_numerals(self):
        program = read_text("out 0\nout 999999\nout 10")
        self.assertEqual([program.value_of(numeral) for numeral in program.numerals()], [0, 999999, 10])

    def test_names_near_keywords(self):
        program = read_text("let lets = 1\nlet i = lets\nlet blocks = i\nlet use = blocks\nlet number = use\n")
        self.assertEqual(list(program.names().values()), ["lets", "i", "blocks", "use", "number"])

    def test_uses_find_the_nearest_block(self):
        text = "let x = 1\nblock {\nout x\nlet x = 2\nblock {\nset x = x\n}\n}\nout x\ndef p(x) {\nout x\n}\ndo p(x)\n"
        program = read_text(text)
        outer, inner, procedure, parameter = program.declarations()
        meanings = [program.meaning(use) for use in program.uses()]
        self.assertEqual(meanings, [inner, inner, inner, outer, parameter, procedure, outer])

    def test_declarations_are_seen_ahead_of_their_rows(self):
        program = read_text("do p(x)\nlet x = x\ndef p(a) {\ndo p(a)\n}\n")
        self.assertEqual(len(program.uses()), 5)

    def test_examples_of_the_document(self):
        self.assertEqual(fault("let a = b\n"), (0, 8, "unknown"))
        program = read_text("let x = 1\nblock {\nlet y = x\nout y + x\n}\n")
        self.assertEqual(program.declarations(), [("", 2), ("", 7)])
        self.assertEqual(program.blocks(), [("", 0), ("", 5)])
        program = program.renamed({("", 7): "x"})
        self.assertEqual(program_text(program), "let x = 1\nblock {\n  let x = x\n  out x + x\n}\n")

    def test_random_trees(self):
        for seed in range(60):
            tree = random_tree(seed)
            names = short_names(tree)
            text = reference.written(tree, names)
            self.assertEqual(read_text(text), make(tree, names=names))
            self.assertEqual(read_text(spaced(text, seed)), make(tree, names=names))
            self.assertEqual(program_text(read_text(text)), text)

    def test_a_repeated_call_begins_anew(self):
        self.assertEqual(read_text(text="let x = 1"), read_text("let x = 1", owner=""))


def short_names(tree):
    return {label: label for _, label in labels(tree)}


def labels(tree):
    for row in tree:
        if row[0] in ("let", "def"):
            yield row[0], row[1]
        for part in row[1:]:
            if isinstance(part, list):
                yield from labels(part)
            if row[0] == "def" and isinstance(part, tuple):
                yield from (("parameter", label) for label in part)


def spaced(text, seed):
    """A text with other spaces, more empty lines and more parentheses around leaves."""
    source = random.Random(seed)
    lines = []
    for line in text.split("\n"):
        line = line.strip()
        line = line.replace(" ", " " * source.randint(1, 3)) if source.random() < 0.5 else line
        for sign in "=+-*<(),{}":
            if source.random() < 0.5:
                line = line.replace(sign, " " * source.randint(0, 2) + sign + " " * source.randint(0, 2))
        lines.append(" " * source.randint(0, 3) + line + " " * source.randint(0, 3))
        lines.extend([" " * source.randint(0, 2)] * source.randint(0, 2))
    return "\n".join(lines)


class FaultsTest(unittest.TestCase):
    def check(self, table):
        for text, wanted in table.items():
            self.assertEqual(fault(text), wanted, text)
            self.assertEqual(fault(text, scan_text), wanted, text)
            self.assertEqual(reference.scanned(text), ("fault", *wanted), text)

    def test_values_that_are_no_strings(self):
        for value in odd_values() + [["out 1"], ("out 1",)]:
            if not isinstance(value, str):
                self.assertEqual(fault(value), (0, 0, "form"))
                self.assertEqual(fault(value, scan_text), (0, 0, "form"))

    def test_signs_numbers_words(self):
        self.check({
            "out 1 ; out 2": (0, 6, "sign"), "out A": (0, 4, "sign"), "$": (0, 0, "sign"), "\n\n  let x_ = 1": (2, 7, "sign"),
            "out 007": (0, 4, "number"), "out 1234567": (0, 4, "number"), "out 00": (0, 4, "number"),
            "let abcdefg = 1": (0, 4, "word"), "repeats 3 {": (0, 0, "word"), "out 1\nout abcdefgh": (1, 4, "word"),
            "1234567": (0, 0, "number"), "} 007": (0, 0, "form"),
        })

    def test_form_at_the_first_token(self):
        self.check({
            "x": (0, 0, "form"), "  foo 3": (0, 2, "form"), "5": (0, 0, "form"), "=": (0, 0, "form"), "else {": (0, 0, "form"),
            "{": (0, 0, "form"), "}": (0, 0, "form"), "block {\n}\n }": (2, 1, "form"), "(1)": (0, 0, "form"),
        })

    def test_form_within_lines(self):
        self.check({
            "let": (0, 3, "form"), "let ": (0, 4, "form"), "let x": (0, 5, "form"), "let x   ": (0, 8, "form"),
            "let x =": (0, 7, "form"), "let x = ": (0, 8, "form"), "let x 1": (0, 6, "form"), "let 1 = 1": (0, 4, "form"),
            "let if = 1": (0, 4, "form"), "let = 1": (0, 4, "form"), "let x = 1 2": (0, 10, "form"),
            "let x = = 1": (0, 8, "form"), "let x = 1 x": (0, 10, "form"), "let x == 1": (0, 7, "form"),
            "set set = 1": (0, 4, "form"), "set x": (0, 5, "form"), "out": (0, 3, "form"), "out out": (0, 4, "form"),
            "out 1 +": (0, 7, "form"), "out + 1": (0, 4, "form"), "out 1 + * 2": (0, 8, "form"), "out - 1": (0, 4, "form"),
            "out (1": (0, 6, "form"), "out (1 + 2  ": (0, 12, "form"), "out 1)": (0, 5, "form"), "out (1))": (0, 7, "form"),
            "out ()": (0, 5, "form"), "out (": (0, 5, "form"), "out (1, 2)": (0, 6, "form"), "out 1 }": (0, 6, "form"),
            "out (1 {": (0, 7, "form"), "out 1 (2)": (0, 6, "form"), "out ((1) 2)": (0, 9, "form"),
            "read": (0, 4, "form"), "read 5": (0, 5, "form"), "read x y": (0, 7, "form"), "read x + 1": (0, 7, "form"),
            "read read": (0, 5, "form"), "do": (0, 2, "form"), "do p": (0, 4, "form"), "do p 1": (0, 5, "form"),
            "do p(": (0, 5, "form"), "do p(1": (0, 6, "form"), "do p(1,": (0, 7, "form"), "do p(1,)": (0, 7, "form"),
            "do p(,1)": (0, 5, "form"), "do p(1 2)": (0, 7, "form"), "do p(1) 2": (0, 8, "form"), "do p() {": (0, 7, "form"),
            "do do()": (0, 3, "form"), "do p(1))": (0, 7, "form"), "do (1)": (0, 3, "form"),
            "def": (0, 3, "form"), "def p": (0, 5, "form"), "def p {": (0, 6, "form"), "def p(": (0, 6, "form"),
            "def p() ": (0, 8, "form"), "def p(a": (0, 7, "form"), "def p(a b) {": (0, 8, "form"), "def p(1) {": (0, 6, "form"),
            "def p(a,) {": (0, 8, "form"), "def p(,) {": (0, 6, "form"), "def p(let) {": (0, 6, "form"),
            "def p() { out 1": (0, 10, "form"), "def def() {": (0, 4, "form"), "def p(a + b) {": (0, 8, "form"),
            "if": (0, 2, "form"), "if {": (0, 3, "form"), "if 1": (0, 4, "form"), "if 1 { }": (0, 7, "form"),
            "repeat": (0, 6, "form"), "repeat 2": (0, 8, "form"), "repeat {": (0, 7, "form"), "repeat 2 {{": (0, 10, "form"),
            "block": (0, 5, "form"), "block 1 {": (0, 6, "form"), "block {}": (0, 7, "form"), "block }": (0, 6, "form"),
        })

    def test_ends_of_blocks(self):
        self.check({
            "block {\n} else {\n}": (1, 2, "form"), "repeat 1 {\n} else {\n}": (1, 2, "form"),
            "def p() {\n}else{\n}": (1, 1, "form"), "if 1 {\n} else {\n} else {\n}": (2, 2, "form"),
            "if 1 {\nblock {\n} else {\n}\n}": (2, 2, "form"), "if 1 {\n} else": (1, 6, "form"),
            "if 1 {\n} else  \n}": (1, 8, "form"), "if 1 {\n} else 1": (1, 7, "form"), "if 1 {\n} else { }": (1, 9, "form"),
            "if 1 {\n} {": (1, 2, "form"), "if 1 {\n} out 1": (1, 2, "form"), "if 1 {\n} }": (1, 2, "form"),
            "if 1 {\n}\nelse {\n}": (2, 0, "form"), "if 1 {\n}\n} else {": (2, 0, "form"), "block {\n} if": (1, 2, "form"),
            "if 1 {\n} elsewh": (1, 2, "form"), "if 1 {\n} else {\n}\n}": (3, 0, "form"),
        })

    def test_the_end(self):
        self.check({
            "block {": (0, 7, "end"), "block {\n": (1, 0, "end"), "block {\n\n  ": (2, 2, "end"),
            "if 1 {\n} else {\nout 1\n": (3, 0, "end"), "def p() {\nblock {\n}\nout 1": (3, 5, "end"),
            "repeat 1 {\nblock {\n} ": (2, 2, "end"), "if 1 {": (0, 6, "end"),
        })

    def test_twice(self):
        self.check({
            "let x = 1\nlet x = 2": (1, 4, "twice"), "let x = 1\ndef x() {\n}": (1, 4, "twice"),
            "def p(a, b, a) {\n}": (0, 12, "twice"), "def p(a) {\n  let a = 1\n}": (1, 6, "twice"),
            "def p() {\nlet p = 1\nlet p = 2\n}": (2, 4, "twice"),
            "let y = 1\nblock {\nlet x = 1\nlet y = 1\nlet x = 2\n}\nlet y = 2": (4, 4, "twice"),
            "if 1 {\nlet x = 1\n} else {\nlet x = 1\nlet x = 1\n}": (4, 4, "twice"),
        })

    def test_one_name_in_different_blocks(self):
        for text in (
            "let x = 1\nblock {\nlet x = 2\n}", "if 1 {\nlet x = 1\n} else {\nlet x = 1\n}", "def p(p) {\n}", "def p(a) {\n}\nlet a = 1",
        ):
            self.assertIsNone(fault(text))

    def test_unknown_and_kind(self):
        self.check({
            "out x": (0, 4, "unknown"), "block {\nlet x = 1\n}\nout x": (3, 4, "unknown"), "set x = y": (0, 4, "unknown"),
            "let x = 1\nset x = y": (1, 8, "unknown"), "do p()": (0, 3, "unknown"), "read   x": (0, 7, "unknown"),
            "def p(a) {\n}\nout a": (2, 4, "unknown"), "if x {\nlet x = 1\n}": (0, 3, "unknown"),
            "if 1 {\nlet x = 1\n} else {\nout x\n}": (3, 4, "unknown"), "repeat x {\nlet x = 1\n}": (0, 7, "unknown"),
            "def p() {\n}\nout p": (2, 4, "kind"), "let x = 1\ndo x()": (1, 3, "kind"), "def p() {\n}\ndo p(1)": (2, 3, "kind"),
            "def p(a) {\n}\ndo p()": (2, 3, "kind"), "def p(a) {\ndo a()\n}": (1, 3, "kind"), "def p() {\n}\nread p": (2, 5, "kind"),
            "def p() {\n}\nset p = 1": (2, 4, "kind"), "def p(a) {\n}\ndo p(p)": (2, 5, "kind"),
            "let p = 1\nblock {\ndef p() {\n}\nout p\n}": (4, 4, "kind"), "def p() {\n}\nblock {\nlet p = 1\ndo p()\n}": (4, 3, "kind"),
        })

    def test_two_faults_at_once(self):
        self.check({
            # The least place in a line counts, then the order of the words at one place.
            "out $ 007": (0, 4, "sign"), "out 007 $": (0, 4, "number"), "foo $": (0, 0, "form"), "let let $": (0, 4, "form"),
            "out 1 007": (0, 6, "number"), "out 1 abcdefg": (0, 6, "word"), "out 1 $": (0, 6, "sign"),
            "let 007": (0, 4, "number"), "let $": (0, 4, "sign"), "let abcdefg": (0, 4, "word"), "$ x": (0, 0, "sign"),
            "block {\n} $": (1, 2, "sign"), "} $": (0, 0, "form"),
            # The first line counts, whatever the word is.
            "out\nout $": (0, 3, "form"), "out $\nout": (0, 4, "sign"), "out abcdefg\n$": (0, 4, "word"),
            # All lines are looked at ahead of the end, the declarations and the uses.
            "let x = y\nlet x = 1\nout": (2, 3, "form"), "block {\nout x\nout": (2, 3, "form"), "block {\nout 1 +": (1, 7, "form"),
            "let x = y\nlet x = 1\nblock {": (2, 7, "end"), "out x\nblock {\n": (2, 0, "end"),
            # Declarations are looked at ahead of uses.
            "out y\nlet x = 1\nlet x = 2": (2, 4, "twice"), "do x()\nlet x = 1\nlet x = 2": (2, 4, "twice"),
            # The first use counts.
            "def p() {\n}\nout p\nout y": (2, 4, "kind"), "def p() {\n}\nout y\nout p": (2, 4, "unknown"),
            "do p(y)\ndef p() {\n}": (0, 3, "kind"), "out 1 + y * z": (0, 8, "unknown"),
        })

    def test_lines_without_tokens_count(self):
        self.check({"\n\n   \nout x\n": (3, 4, "unknown"), " \n let": (1, 4, "form")})

    def test_random_changes_of_texts(self):
        source = random.Random(9)
        pieces = ["x", "p", "let", "else", "}", "{", "} else {", "(", ")", ",", "=", "+", "<", "0", "01", "$", "abcdefg", "\n", " ", "q"]
        seen = {"e": -1, "g": 2, "h": 0}
        whys = set()
        for seed in range(1500):
            tree = random_tree(seed, rows=8, depth=2)
            text = reference.written(tree)
            for _ in range(source.randint(0, 3)):
                at = source.randint(0, len(text))
                text = text[:at] + source.choice(pieces + ["e", "g", "h"]) + text[at + source.randint(0, 2):]
            lines = text.split("\n")
            if seed % 3 == 0:
                at = source.randrange(len(lines))
                lines[at:at + 1] = lines[at:at + 1] * source.choice([0, 2])
            text = "\n".join(lines)
            for given in ({}, seen):
                wanted = reference.scanned(text, given)
                try:
                    found = ("uses", scan_text(text, seen=given))
                except BadText as error:
                    found = ("fault", error.line, error.place, error.why)
                    whys.add(error.why)
                self.assertEqual(found, wanted, text)
            plain = reference.scanned(text)
            self.assertEqual(fault(text), None if plain[0] == "uses" else plain[1:])
        self.assertEqual(whys, {"sign", "number", "word", "form", "end", "twice", "unknown", "kind"})


class ScanTest(unittest.TestCase):
    def test_own_names(self):
        self.assertEqual(scan_text(""), [])
        self.assertEqual(scan_text("let x = 1\nout x + x"), [("x", True), ("x", True)])
        self.assertEqual(scan_text("def p(a) {\ndo p(a)\n}\ndo p(1)", seen={}), [("p", True), ("a", True), ("p", True)])

    def test_seen_names(self):
        seen = {"x": -1, "p": 0, "q": 2}
        kept = dict(seen)
        text = "out x\ndo p()\ndo q(x, y)\nlet y = 1\nset x = 2\nread x"
        wanted = [("x", False), ("p", False), ("q", False), ("x", False), ("y", True), ("x", False), ("x", False)]
        self.assertEqual(scan_text(text, seen=seen), wanted)
        self.assertEqual(seen, kept)

    def test_the_text_is_asked_first(self):
        text = "out x\nblock {\nlet x = 1\nblock {\nout x\n}\n}\n"
        self.assertEqual(scan_text(text, seen={"x": -1}), [("x", False), ("x", True)])
        self.assertEqual(scan_text("def x() {\n}\ndo x()", seen={"x": -1}), [("x", True)])

    def test_faults_with_seen_names(self):
        for text, wanted in {
            "out p": (0, 4, "kind"), "do x()": (0, 3, "kind"), "do q(1)": (0, 3, "kind"), "do p(1)": (0, 3, "kind"),
            "out y": (0, 4, "unknown"), "def x() {\n}\nout x": (2, 4, "kind"), "let p = 1\ndo p()": (1, 3, "kind"),
            "do q(x, p)": (0, 8, "kind"), "let x = 1\nlet x = 2\nout y": (1, 4, "twice"), "out x x": (0, 6, "form"),
        }.items():
            self.assertEqual(fault(text, lambda given: scan_text(given, seen={"x": -1, "p": 0, "q": 2})), wanted)

    def test_seen_is_for_scanning_alone(self):
        self.assertEqual(scan_text("out x", seen={"x": -1}), [("x", False)])
        self.assertEqual(fault("out x", scan_text), (0, 4, "unknown"))
        with self.assertRaises(TypeError):
            scan_text("", {})


class LargeTextsTest(unittest.TestCase):
    def test_as_large_as_the_document_allows(self):
        deep = "x"
        for _ in range(8):
            deep = "(1 - " + deep + ")"
        lines = ["let x = 1"] + ["block {"] * 39 + ["out " + deep] * 80 + ["}"] * 39
        text = "\n".join(lines)
        self.assertLessEqual(len(text), 6000)
        program = read_text(text)
        self.assertEqual((len(program), len(program.blocks()), len(program.uses())), (120, 40, 80))
        self.assertEqual(read_text(program_text(program)), program)

    def test_many_nested_blocks(self):
        text = "block{\n" * 666 + "}\n" * 666
        program = read_text(text)
        self.assertEqual(len(program.blocks()), 667)
        self.assertEqual(read_text(program_text(program)), program)
        self.assertEqual(fault("if 1{\n" * 900), (900, 0, "end"))

    def test_long_sums_and_many_parentheses(self):
        program = read_text("out " + "1+" * 2900 + "1")
        self.assertEqual(len(program.numerals()), 2901)
        self.assertEqual(program_text(program), "out " + "1 + " * 2900 + "1\n")
        self.assertEqual(read_text(program_text(program)), program)
        self.assertNotEqual(read_text("out " + "1+" * 2899 + "1-1"), program)
        self.assertTrue(alike(program, read_text(program_text(program), owner="ann")))
        program = read_text("out " + "(" * 2900 + "1" + ")" * 2900)
        self.assertEqual(program, make([("out", 1)]))
        self.assertEqual(fault("out " + "(" * 2900), (0, 2904, "form"))

    def test_many_declarations(self):
        names = ["v" + a + b for a in "abcdefghij" for b in "abcdef"]
        program = read_text("".join(f"let {name} = {name}\n" for name in names))
        self.assertEqual([program.meaning(use) for use in program.uses()], program.declarations())

    def test_a_program_is_returned(self):
        self.assertIsInstance(read_text("out 1"), Program)


if __name__ == "__main__":
    unittest.main()
