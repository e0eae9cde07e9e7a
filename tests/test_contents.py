import unittest

from piercednames.contents import blocks_of, copied, declared_by, expression_uses, expressions_of, things_of


def use(number):
    return ("use", ("", number))


def numeral(number):
    return ("number", ("", number))


DEEP = ("<", ("+", use(11), ("*", numeral(12), use(13))), ("-", ("-", use(14), use(15)), numeral(16)))

# For each content: its things, blocks, declarations and expressions.
TABLE = [
    (
        ("let", ("", 1), numeral(2)),
        [("declaration", ("", 1)), ("number", ("", 2))], [], [("", 1)], [numeral(2)],
    ),
    (
        ("set", ("", 1), ("+", use(2), numeral(3))),
        [("use", ("", 1)), ("use", ("", 2)), ("number", ("", 3))], [], [], [("+", use(2), numeral(3))],
    ),
    (("read", ("", 1)), [("use", ("", 1))], [], [], []),
    (("out", use(1)), [("use", ("", 1))], [], [], [use(1)]),
    (
        ("def", ("", 1), (("", 3), ("", 4)), ("", 2)),
        [("declaration", ("", 1)), ("block", ("", 2)), ("declaration", ("", 3)), ("declaration", ("", 4))],
        [("", 2)], [("", 1), ("", 3), ("", 4)], [],
    ),
    (
        ("def", ("", 1), (), ("", 2)),
        [("declaration", ("", 1)), ("block", ("", 2))], [("", 2)], [("", 1)], [],
    ),
    (
        ("do", ("", 1), (("<", use(2), numeral(3)), use(4))),
        [("use", ("", 1)), ("use", ("", 2)), ("number", ("", 3)), ("use", ("", 4))],
        [], [], [("<", use(2), numeral(3)), use(4)],
    ),
    (("do", ("", 1), ()), [("use", ("", 1))], [], [], []),
    (
        ("if", use(1), ("", 2), ("ann", 1)),
        [("use", ("", 1)), ("block", ("", 2)), ("block", ("ann", 1))], [("", 2), ("ann", 1)], [], [use(1)],
    ),
    (
        ("repeat", numeral(1), ("", 2)),
        [("number", ("", 1)), ("block", ("", 2))], [("", 2)], [], [numeral(1)],
    ),
    (("block", ("", 1)), [("block", ("", 1))], [("", 1)], [], []),
    (
        ("out", DEEP),
        [("use", ("", 11)), ("number", ("", 12)), ("use", ("", 13)), ("use", ("", 14)), ("use", ("", 15)),
         ("number", ("", 16))],
        [], [], [DEEP],
    ),
]


class ContentsTest(unittest.TestCase):
    def test_each_kind(self):
        for content, things, blocks, declarations, expressions in TABLE:
            self.assertEqual(things_of(content), things)
            self.assertEqual(blocks_of(content), blocks)
            self.assertEqual(declared_by(content), declarations)
            self.assertEqual(expressions_of(content), expressions)

    def test_returned_lists_are_new(self):
        for content, *wanted in TABLE:
            for function, result in zip((things_of, blocks_of, declared_by, expressions_of), wanted):
                function(content).append(None)
                function(content).clear()
                self.assertEqual(function(content), result)
        expression_uses(DEEP).clear()
        self.assertEqual(len(expression_uses(DEEP)), 4)

    def test_expression_uses(self):
        self.assertEqual(expression_uses(numeral(1)), [])
        self.assertEqual(expression_uses(use(1)), [("", 1)])
        self.assertEqual(expression_uses(DEEP), [("", 11), ("", 13), ("", 14), ("", 15)])

    def test_ids_whose_owners_are_words_of_expressions(self):
        leaf = ("use", ("number", 1))
        content = ("set", ("use", 1), ("+", leaf, ("number", ("use", 2))))
        self.assertEqual(things_of(content), [("use", ("use", 1)), ("use", ("number", 1)), ("number", ("use", 2))])
        self.assertEqual(expression_uses(content[2]), [("number", 1)])
        self.assertEqual(
            copied(content, {("use", 1): ("number", 1), ("number", 1): ("use", 9)}),
            ("set", ("number", 1), ("+", ("use", ("use", 9)), ("number", ("use", 2)))),
        )

    def test_copied_without_ids(self):
        for content, *_ in TABLE:
            self.assertEqual(copied(content, {}), content)
            self.assertEqual(copied(content, {("zed", 1): ("zed", 2)}), content)

    def test_copied_replaces_each_id_once(self):
        for content, *_ in TABLE:
            ids = {thing: ("bob", number) for number, (_, thing) in enumerate(things_of(content))}
            back = {ids[thing]: thing for thing in ids}
            done = copied(content, ids)
            self.assertEqual(things_of(done), [(word, ids[thing]) for word, thing in things_of(content)])
            self.assertEqual(copied(done, back), content)
            self.assertEqual(done[0], content[0])

    def test_copied_exchanges(self):
        content = ("def", ("", 1), (("", 3), ("", 4)), ("", 2))
        ids = {("", 3): ("", 4), ("", 4): ("", 3), ("", 1): ("", 2), ("", 2): ("", 1)}
        kept = dict(ids)
        self.assertEqual(copied(content, ids), ("def", ("", 2), (("", 4), ("", 3)), ("", 1)))
        self.assertEqual(ids, kept)

    def test_copied_in_each_place(self):
        ids = {("", number): ("ann", number) for number in range(20)}
        one, two, three = [("ann", number) for number in (1, 2, 3)]
        wanted = [
            ("let", one, ("number", two)),
            ("set", one, ("+", ("use", two), ("number", three))),
            ("read", one),
            ("out", ("use", one)),
            ("def", one, (three, ("ann", 4)), two),
            ("def", one, (), two),
            ("do", one, (("<", ("use", two), ("number", three)), ("use", ("ann", 4)))),
            ("do", one, ()),
            ("if", ("use", one), two, ("ann", 1)),
            ("repeat", ("number", one), two),
            ("block", one),
        ]
        self.assertEqual([copied(row[0], ids) for row in TABLE[:-1]], wanted)

    def test_long_sums(self):
        expression = use(0)
        for number in range(1, 3000):
            expression = ("+", expression, use(number))
        uses = [("", number) for number in range(3000)]
        self.assertEqual(expression_uses(expression), uses)
        done = copied(("out", expression), {("", 0): ("ann", 0)})
        self.assertEqual(expression_uses(done[1]), [("ann", 0)] + uses[1:])


if __name__ == "__main__":
    unittest.main()
