import unittest

from piercednames.errors import Caught, Doubled, UnknownId
from piercednames.making import make
from piercednames.meaning import check_right, check_single, faults, found, is_right
from piercednames.texts import read_text
from tests.reference_names import Facts
from tests.samples import empty_program, odd_values, random_program, wrong_programs


def at(number):
    return ("", number)


# The root declares x, 2, a procedure, 5, and y, 13; the body has the parameter y, 7.
TEXT = "let x = 1\ndef p(y) {\nout x + y\nblock {\nlet z = y\n}\n}\nlet w = x\n"


def sample(**names):
    program = read_text(TEXT)
    labels = {program.name_of(thing): thing for thing in program.declarations()}
    return program.renamed({labels[label]: name for label, name in names.items()})


def raised(call, program):
    """The class and the attributes of what a call raises, None if it raises nothing."""
    try:
        call(program)
    except (Doubled, Caught) as error:
        return {"kind": error.__class__, **vars(error)}
    return None


class FoundTest(unittest.TestCase):
    def test_right_programs_find_what_they_mean(self):
        for seed in range(40):
            program = random_program(seed)
            for use in program.uses():
                self.assertEqual(found(program, use), program.meaning(use))

    def test_by_the_name_from_the_block_upward(self):
        for program in wrong_programs(60):
            facts = Facts(program)
            for use in program.uses():
                self.assertEqual(found(program, use), facts.found(use))

    def test_the_first_of_the_block(self):
        program = make([("let", "a", 1), ("let", "b", 2), ("out", "b")], names={"b": "a"})
        use = program.uses()[0]
        self.assertEqual(found(program, use), program.declarations()[0])
        self.assertEqual(faults(program), [
            ("doubled", *program.declarations(), at(0)),
            ("caught", use, program.declarations()[1], program.declarations()[0], at(0)),
        ])

    def test_a_declaration_below_the_use_is_not_found(self):
        program = make([("let", "a", 1), ("out", "a"), ("block", [("let", "b", 1)])], names={"b": "a"})
        self.assertEqual(found(program, program.uses()[0]), program.declarations()[0])

    def test_a_declaration_behind_the_use_is_found(self):
        tree = [("let", "a", 1), ("block", [("out", "a"), ("block", []), ("let", "b", 1)])]
        program = make(tree, names={"b": "a"})
        self.assertEqual(found(program, program.uses()[0]), program.declarations()[1])

    def test_variables_and_procedures_have_one_space_of_names(self):
        tree = [("let", "a", 1), ("block", [("out", "a"), ("def", "b", ("c",), [])])]
        program = make(tree, names={"b": "a"})
        self.assertEqual(faults(program), [("caught", at(7), at(2), at(9), at(5))])

    def test_a_parameter_belongs_to_the_body(self):
        program = sample(y="x")
        self.assertEqual([fault[0] for fault in faults(program)], ["caught"])
        self.assertEqual(faults(program)[0][4], program.body(program.declarations()[1]))

    def test_unknown_ids(self):
        program = sample()
        for value in [*odd_values(), *[thing for thing in program.things() if program.kind_of(thing) != "use"]]:
            with self.assertRaises(UnknownId) as caught:
                found(program, value)
            self.assertEqual(repr(caught.exception.thing), repr(value))


class FaultsTest(unittest.TestCase):
    def test_none_of_a_right_program(self):
        for program in [empty_program(), sample(), *[random_program(seed) for seed in range(20)]]:
            self.assertEqual(faults(program), [])
            self.assertIs(is_right(program), True)
            self.assertIsNone(raised(check_right, program))
            self.assertIsNone(raised(check_single, program))

    def test_many_faults(self):
        kinds = set()
        for program in wrong_programs(120):
            wanted = Facts(program).faults()
            self.assertEqual(faults(program), wanted)
            self.assertIs(is_right(program), not wanted)
            kinds |= {fault[0] for fault in wanted}
        self.assertEqual(kinds, {"doubled", "caught"})

    def test_doubled_ones_come_first(self):
        # The caught use stands ahead of the doubled declaration.
        tree = [("let", "a", 1), ("block", [("out", "a"), ("let", "b", 1)]), ("let", "c", 1)]
        program = make(tree, names={"b": "a", "c": "a"})
        first, inner, second = program.declarations()
        self.assertEqual(faults(program), [
            ("doubled", first, second, at(0)), ("caught", program.uses()[0], first, inner, program.blocks()[1]),
        ])

    def test_a_third_one_is_doubled_with_the_first_one(self):
        program = make([("let", "a", 1), ("let", "b", 1), ("let", "c", 1)], names={"b": "a", "c": "a"})
        one, two, three = program.declarations()
        self.assertEqual(faults(program), [("doubled", one, two, at(0)), ("doubled", one, three, at(0))])

    def test_doubled_ones_in_the_order_of_the_second(self):
        tree = [("let", "a", 1), ("let", "b", 1), ("let", "c", 1), ("let", "d", 1)]
        program = make(tree, names={"c": "b", "d": "a"})
        one, two, three, four = program.declarations()
        self.assertEqual(faults(program), [("doubled", two, three, at(0)), ("doubled", one, four, at(0))])

    def test_the_example(self):
        program = read_text("let x = 1\nblock {\nlet y = x\nout y + x\n}\n").renamed({at(7): "x"})
        self.assertEqual(faults(program)[0], ("caught", at(8), at(2), at(7), at(5)))

    def test_lists_are_new(self):
        program = sample(y="x")
        given = faults(program)
        given.clear()
        self.assertEqual(len(faults(program)), 1)


class CheckTest(unittest.TestCase):
    def test_the_first_fault(self):
        seen = set()
        for program in wrong_programs(120):
            wanted = Facts(program).faults()
            single = [fault for fault in wanted if fault[0] == "doubled"]
            for check, listed in ((check_right, wanted), (check_single, single)):
                told = raised(check, program)
                if not listed:
                    self.assertIsNone(told)
                    continue
                word, *rest = listed[0]
                seen.add((check.__name__, word))
                if word == "doubled":
                    names = ("first", "second", "block")
                else:
                    names = ("use", "own", "other", "block")
                kind = Doubled if word == "doubled" else Caught
                self.assertEqual(told, {"kind": kind, "code": kind.__name__, **dict(zip(names, rest))})
        self.assertEqual(len(seen), 3)

    def test_nothing_is_returned(self):
        self.assertIsNone(check_right(sample()))
        self.assertIsNone(check_single(sample()))
        self.assertIsNone(check_single(sample(y="x")))


if __name__ == "__main__":
    unittest.main()
