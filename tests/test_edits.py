import random
import unittest

from piercednames.contents import things_of
from piercednames.edits import edit_text, is_edit, read_edit, sketched
from piercednames.texts import read_text
from tests.samples import empty_program, odd_values

A, B, C = ("", 2), ("ann", 30), ("bob", 0)

EDITS = {
    ("rename", A, "x"): "rename .2 x",
    ("rename", B, "abcdef"): "rename ann.30 abcdef",
    ("rename", A, "first"): "rename .2 first",
    ("put", A, None, ("block",)): "put .2 first block",
    ("put", A, B, ("let", "x", 0)): "put .2 ann.30 let x = 0",
    ("put", ("", 0), None, ("let", "x", ("+", ("use", ("", 3)), 5))): "put .0 first let x = (.3 + 5)",
    ("put", A, B, ("set", C, 999999)): "put .2 ann.30 set bob.0 = 999999",
    ("put", A, B, ("out", ("use", C))): "put .2 ann.30 out bob.0",
    ("put", A, B, ("read", C)): "put .2 ann.30 read bob.0",
    ("put", ("", 0), ("", 4), ("do", ("", 6), (("use", ("", 3)), 1))): "put .0 .4 do .6(.3, 1)",
    ("put", A, B, ("do", C, ())): "put .2 ann.30 do bob.0()",
    ("put", A, B, ("do", C, (1, ("<", 2, ("use", A)), 3))): "put .2 ann.30 do bob.0(1, (2 < .2), 3)",
    ("put", A, B, ("do", C, (1,) * 9)): "put .2 ann.30 do bob.0(1, 1, 1, 1, 1, 1, 1, 1, 1)",
    ("put", ("", 0), ("", 4), ("def", "f", ("a", "b"))): "put .0 .4 def f(a, b)",
    ("put", A, B, ("def", "f", ())): "put .2 ann.30 def f()",
    ("put", A, B, ("def", "f", ("a", "a", "c", "d", "e"))): "put .2 ann.30 def f(a, a, c, d, e)",
    ("put", ("", 0), ("", 4), ("if", ("use", ("", 3)))): "put .0 .4 if .3",
    ("put", A, B, ("repeat", ("*", ("-", 1, 2), ("use", A)))): "put .2 ann.30 repeat ((1 - 2) * .2)",
    ("put", A, B, ("out", ("-", 1, ("-", 2, ("-", 3, 4))))): "put .2 ann.30 out (1 - (2 - (3 - 4)))",
    ("drop", A): "drop .2",
    ("move", A, B, C): "move .2 ann.30 bob.0",
    ("move", A, B, None): "move .2 ann.30 first",
    ("turn", A, B): "turn .2 ann.30",
    ("value", A, 0): "value .2 0",
    ("value", A, 999999): "value .2 999999",
    ("lift", ("", 4), 2, "f"): "lift .4 2 f",
    ("lift", A, 1, "f"): "lift .2 1 f",
    ("lift", A, 120, "f"): "lift .2 120 f",
    ("inline", A): "inline .2",
    ("hoist", A, B): "hoist .2 ann.30",
    ("wrap", A, 1): "wrap .2 1",
    ("wrap", A, 120): "wrap .2 120",
    ("unwrap", A): "unwrap .2",
}
NO_IDS = [None, 2, True, "", ".2", [A], ["", 2], ("", True), ("", -1), ("", "2"), ("let", 2), ("Ann", 2), ("", 2, 3), A + A]
NO_NAMES = [None, 2, True, "", "let", "block", "seventh", "X", "a1", ["a"], ("a",), A]
NO_VALUES = [None, -1, 1000000, True, False, "1", [1], (1,)]
NO_COUNTS = [None, 0, 121, -1, True, "1", (1,)]
NO_EXPRESSIONS = [
    None, True, -1, 1000000, "x", "", [], (), A, ("use", "x"), ("use", ("", True)), ("use", A, A), ("use",), ["use", A],
    ("number", A), ("number", 1), ("+", 1), ("+", 1, 2, 3), ("/", 1, 2), ("", 1, 2), ("+-", 1, 2), (["+"], 1, 2),
    ["+", 1, 2], ("+", 1, True), ("+", 1, [2]), ("*", ("<", 1, None), 2), ("-", ("+", 1, 2), ["+", 1, 2]), ({}, 1, 2),
    (empty_program(), 1, 2), (None, 1, 2), ("+", 1, ("use", ["", 2])),
]


def wrong_edits():
    """Values with one thing wrong."""
    for thing in NO_IDS:
        yield from (("rename", thing, "x"), ("drop", thing), ("move", thing, B, C), ("move", A, thing, C))
        yield from (("turn", thing, B), ("turn", A, thing), ("value", thing, 1), ("lift", thing, 2, "f"))
        yield from (("inline", thing), ("hoist", thing, B), ("hoist", A, thing), ("wrap", thing, 1), ("unwrap", thing))
        yield from (("put", thing, None, ("block",)), put("set", thing, 1), put("read", thing), put("do", thing, ()))
        if thing is not None:
            yield from (("move", A, B, thing), ("put", A, thing, ("block",)))
    for name in NO_NAMES:
        yield from (("rename", A, name), ("lift", A, 2, name), put("let", name, 1), put("def", name, ()))
        yield from (put("def", "f", (name,)), put("def", "f", ("a", name)))
    for value in NO_VALUES:
        yield ("value", A, value)
    for many in NO_COUNTS:
        yield from (("lift", A, many, "f"), ("wrap", A, many))
    for expression in NO_EXPRESSIONS:
        yield from (put("let", "x", expression), put("set", A, expression), put("out", expression))
        yield from (put("if", expression), put("repeat", expression), put("do", A, (expression,)))
        yield put("do", A, (1, expression))
    yield from (put("def", "f", ("a", "b", "c", "d", "e", "f")), put("def", "f", ["a"]), put("def", "f", "a"))
    yield from (put("def", "f", None), put("do", A, [1]), put("do", A, 1), put("do", A, None), put("do", A, "1"))
    yield from (put("let", "x"), put("let", "x", 1, 2), put("out"), put("out", 1, 2), put("block", 1), put(), put(None))
    yield from (put("number", 1), put("rename", A, "x"), put(["block"]), put("Let", "x", 1), put(empty_program()))
    yield from (("put", A, B, ["block"]), ("put", A, B, "block"), ("put", A, B, None), ("put", A, B, []))
    for edit in EDITS:
        yield from (edit[:-1], (*edit, A), list(edit), edit[1:], (None, *edit[1:]), ([edit[0]], *edit[1:]), edit[:1])
    yield from (("rename",), (), ("x",), ("base", ""), ("accept",), ({}, A), (empty_program(), A), "rename", "drop .2")


def put(*sketch):
    return ("put", A, B, sketch)


class IsEditTest(unittest.TestCase):
    def test_all_forms(self):
        self.assertEqual({edit[0] for edit in EDITS}, set("rename put drop move turn value lift inline hoist wrap unwrap".split()))
        for edit in EDITS:
            self.assertIs(is_edit(edit), True, edit)

    def test_other_values(self):
        for value in [*odd_values(), *wrong_edits()]:
            # An edit without its last item, or with one more, may be another one.
            if not (isinstance(value, tuple) and repr(value) in {repr(edit) for edit in EDITS}):
                self.assertIs(is_edit(value), False, value)

    def test_deep_expressions(self):
        for wrong in (False, True):
            expression = True if wrong else 1
            for _ in range(8):
                expression = ("+", 2, expression)
            self.assertIs(is_edit(put("out", expression)), not wrong)

    def test_random_edits_and_values_with_one_thing_wrong(self):
        source = random.Random(3)
        for _ in range(300):
            edit = random_edit(source)
            self.assertIs(is_edit(edit), True)
            self.assertIs(is_edit(replaced(edit, source)), False)


def random_id(source):
    return (source.choice(["", "ann", "b", "first"]), source.choice([0, 1, 7, 12, 10 ** 19]))


def random_expression(source, depth=3):
    if depth and source.random() < 0.5:
        return (source.choice("+-*<"), random_expression(source, depth - 1), random_expression(source, depth - 1))
    return source.choice([0, 5, 999999, ("use", random_id(source)), ("use", random_id(source))])


def random_sketch(source):
    word = source.choice("let set out read do def if repeat block".split())
    name, thing, expression = source.choice(["x", "first", "abcdef"]), random_id(source), random_expression(source)
    return {
        "let": (word, name, expression), "set": (word, thing, expression), "read": (word, thing),
        "do": (word, thing, tuple(random_expression(source) for _ in range(source.randint(0, 3)))),
        "def": (word, name, tuple(source.choice("abc") for _ in range(source.randint(0, 5)))), "block": (word,),
    }.get(word, (word, expression))


def random_edit(source):
    word = source.choice("rename put put put drop move turn value lift inline hoist wrap unwrap".split())
    one, other, after = random_id(source), random_id(source), source.choice([None, random_id(source)])
    return {
        "rename": (word, one, "name"), "put": (word, one, after, random_sketch(source)), "drop": (word, one),
        "move": (word, one, other, after), "turn": (word, one, other), "value": (word, one, source.randrange(10 ** 6)),
        "lift": (word, one, source.randint(1, 120), "f"), "inline": (word, one), "hoist": (word, one, other),
        "wrap": (word, one, source.randint(1, 120)), "unwrap": (word, one),
    }[word]


def replaced(value, source):
    """The value with one of its leaves, or one of its tuples, made wrong."""
    if isinstance(value, tuple) and value and source.random() < 0.85:
        at = source.randrange(len(value))
        return (*value[:at], replaced(value[at], source), *value[at + 1:])
    if isinstance(value, tuple):
        return list(value)
    return source.choice([True, -1, "LET", [value], 1.5])


class TextTest(unittest.TestCase):
    def test_texts(self):
        for edit, text in EDITS.items():
            self.assertEqual(edit_text(edit), text)
            self.assertEqual(read_edit(text), edit)

    def test_random_edits(self):
        source = random.Random(1)
        for _ in range(500):
            edit = random_edit(source)
            self.assertEqual(read_edit(edit_text(edit)), edit)

    def test_values_that_are_no_strings(self):
        for value in [*odd_values(), *EDITS]:
            if not isinstance(value, str):
                self.assertIsNone(read_edit(value))

    def test_other_texts(self):
        texts = [value for value in odd_values() if isinstance(value, str)]
        texts += ["rename", "rename .2", "rename .2 let", "rename .2 x y", "rename x .2", "Rename .2 x", "rename .02 x"]
        texts += ["rename .2 x\n", "drop .2,", "drop 2", "drop .", "drop .-1", "drop x1.2", "drop let.2", "drop None"]
        texts += ["move .2 .3 None", "move .2 .3 second", "move .2 .3", "move .2 first .3", "put .0 first", "put .0 first x"]
        texts += ["value .2 -1", "value .2 1000000", "value .2 01", "value .2 x", "lift .2 0 f", "lift .2 121 f", "wrap .2 +1"]
        texts += ["lift .2 02 f", "lift .2 f", "wrap .2", "hoist .2", "inline", "base 0", "accept", "first"]
        for sketch in (
            "let x", "let x =", "let x = ", "let x 1", "let x = y", "let = 1", "let x = 1 2", "let x = 1 + 2",
            "let x = (1)", "let x = (.3)", "let x = ((1 + 2))", "let x = (1+2)", "let x = ( 1 + 2)", "let x = (1 + 2 )",
            "let x = (1 + 2", "let x = 1 + 2)", "let x = (1 + 2 + 3)", "let x = (1 + 2))", "let x = ()", "let x = (+ 1 2)",
            "let x = (1 2 +)", "let x = (1 / 2)", "let x = -1", "let x=1", "let  x = 1", "let x = 01", "let x = 1000000",
            "let x = 1 = 2", "let .3 = 1", "set x = 1", "set .3 1", "set .3", "read x", "read", "read .3 .4", "out", "out ",
            "out x", "do .6", "do .6(", "do .6)", "do .6(1,2)", "do .6(1, 2", "do .6(1, )", "do .6(, 1)", "do .6( )",
            "do .6 ()", "do f()", "do .6(())", "do .6()()", "do .6(1) ", "def f", "def f(", "def f(a,b)", "def f(a, b",
            "def f(a, b,)", "def f(a, let)", "def f(.3)", "def f() {", "def (a)", "def f(a, b, c, d, e, f)", "if", "if .3 {",
            "if 1 else", "repeat", "block {", "block ", "block block", "block 1", "else", "}", "", " block",
        ):
            texts.append("put .0 .4 " + sketch)
        for text in texts:
            self.assertIsNone(read_edit(text), text)

    def test_one_character_more_or_less(self):
        others = {text: edit for edit, text in EDITS.items()}
        for text, edit in others.items():
            for at in range(len(text) + 1):
                for other in (text[:at] + " " + text[at:], text[:at] + "(" + text[at:], text[:at] + text[at + 1:]):
                    read = read_edit(other)
                    if read is not None:
                        self.assertEqual(edit_text(read), other)
                        self.assertTrue(is_edit(read))
                        self.assertEqual(read == edit, other == text)


class SketchedTest(unittest.TestCase):
    def check(self, sketch, content, names=(), meanings=(), values=(), number=0):
        told = sketched(sketch, person="ann", start=7)
        self.assertEqual(told, (content, dict(names), dict(meanings), dict(values), number))
        self.assertIsInstance(told, tuple)
        for one, other in zip(told[1:4], (names, meanings, values)):
            self.assertEqual(list(one.items()), list(other))

    def test_all_forms(self):
        ann = [("ann", number) for number in range(20)]
        use, value = ("use", A), 5
        self.check(("let", "x", value), ("let", ann[8], ("number", ann[9])), [(ann[8], "x")], [], [(ann[9], 5)], 10)
        self.check(("set", B, use), ("set", ann[8], ("use", ann[9])), [], [(ann[8], B), (ann[9], A)], [], 10)
        self.check(("out", value), ("out", ("number", ann[8])), [], [], [(ann[8], 5)], 9)
        self.check(("read", B), ("read", ann[8]), [], [(ann[8], B)], [], 9)
        self.check(
            ("do", B, (use, ("<", value, use))),
            ("do", ann[8], (("use", ann[9]), ("<", ("number", ann[10]), ("use", ann[11])))),
            [], [(ann[8], B), (ann[9], A), (ann[11], A)], [(ann[10], 5)], 12,
        )
        self.check(("do", B, ()), ("do", ann[8], ()), [], [(ann[8], B)], [], 9)
        self.check(
            ("def", "f", ("a", "b")), ("def", ann[8], (ann[10], ann[11]), ann[9]),
            [(ann[8], "f"), (ann[10], "a"), (ann[11], "b")], [], [], 12,
        )
        self.check(("if", value), ("if", ("number", ann[8]), ann[9], ann[10]), [], [], [(ann[8], 5)], 11)
        self.check(("repeat", use), ("repeat", ("use", ann[8]), ann[9]), [], [(ann[8], A)], [], 10)
        self.check(("block",), ("block", ann[8]), number=9)

    def test_expressions(self):
        sketch = ("out", ("+", ("*", 1, ("use", A)), ("-", ("use", B), 2)))
        ids = [("ann", number) for number in range(8, 12)]
        content = ("out", ("+", ("*", ("number", ids[0]), ("use", ids[1])), ("-", ("use", ids[2]), ("number", ids[3]))))
        self.check(sketch, content, [], [(ids[1], A), (ids[2], B)], [(ids[0], 1), (ids[3], 2)], 12)

    def test_a_let_may_use_its_own_declaration(self):
        own = ("ann", 8)
        self.check(
            ("let", "x", ("use", own)), ("let", own, ("use", ("ann", 9))), [(own, "x")], [(("ann", 9), own)], [], 10,
        )

    def test_ids_that_look_like_expressions(self):
        thing = ("use", 3)
        self.check(("out", ("use", thing)), ("out", ("use", ("ann", 8))), [], [(("ann", 8), thing)], [], 9)
        self.check(("set", thing, 1), ("set", ("ann", 8), ("number", ("ann", 9))), [], [(("ann", 8), thing)], [(("ann", 9), 1)], 10)

    def test_the_reading_order(self):
        source = random.Random(9)
        for _ in range(200):
            sketch = random_sketch(source)
            content, names, meanings, values, number = sketched(sketch, person="b", start=3)
            things = things_of(content)
            # Behind the row all ids are given in reading order.
            self.assertEqual([thing for _, thing in things], [("b", count) for count in range(4, number)])
            self.assertEqual(list(names), [thing for word, thing in things if word == "declaration"])
            self.assertEqual(list(meanings), [thing for word, thing in things if word == "use"])
            self.assertEqual(list(values), [thing for word, thing in things if word == "number"])

    def test_from_0_on(self):
        self.assertEqual(sketched(("block",), person="b", start=0), (("block", ("b", 1)), {}, {}, {}, 2))

    def test_as_texts_are_numbered(self):
        # The root has the number 0 and the row the number 1.
        for text, sketch in (
            ("if 1 + 2 {\n}", ("if", ("+", 1, 2))), ("def f(a, b) {\n}", ("def", "f", ("a", "b"))), ("block {\n}", ("block",)),
        ):
            program = read_text(text, owner="ann")
            content, names, _, values, number = sketched(sketch, person="ann", start=1)
            self.assertEqual(content, program.content(("ann", 1)))
            self.assertEqual((names, number), (program.names(), len(program.things())))
            self.assertEqual(values, program.state()[4])


if __name__ == "__main__":
    unittest.main()
