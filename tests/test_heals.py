import itertools
import random
import unittest

from piercednames.carried import WideTable
from piercednames.errors import Beyond, InvalidWorth, UnknownId
from piercednames.heals import Plan, heal
from piercednames.making import make
from piercednames.meaning import faults, is_right
from piercednames.namings import is_apart
from piercednames.stretches import Table
from piercednames.texts import read_text
from piercednames.words import KEYWORDS
from piercednames.writing import program_text
from tests.reference_names import Facts, met
from tests.samples import MANY_CALLS, empty_program, named_by_chance, odd_values, random_program, wrong_programs

LETTERS = "abcdefghijklmnopqrstuvwxyz"


def at(number):
    return ("", number)


def subsets(things):
    for size in range(len(things) + 1):
        yield from itertools.combinations(things, size)


def fresh(avoid):
    """The least names that are not to be avoided, one after another."""
    for size in range(1, 4):
        for letters in itertools.product(LETTERS, repeat=size):
            name = "".join(letters)
            if name not in avoid and name not in KEYWORDS:
                yield name


class Wanted:
    """What a heal must be, by trying all lots."""

    def __init__(self, facts, stretches, worths, held, avoid):
        self.facts, self.stretches = facts, stretches
        self.clash = {(a, b) for a, b in met(stretches) if facts.names[a] == facts.names[b]}
        self.worths = {d: worths.get(d, 1) for d in stretches}
        self.held = [d for d in stretches if d in held]
        self.barred = [d for d in stretches if d not in held and any((d, h) in self.clash for h in held)]
        self.free = [d for d in stretches if d not in held and d not in self.barred]
        self.kept = sorted([*self.held, *self.chosen()], key=list(stretches).index)
        names = fresh([*avoid, *facts.names.values()])
        self.renames = {d: next(names) for d in stretches if d not in self.kept}

    def best(self, free):
        """The good lots of the greatest sum."""
        good = [lot for lot in subsets(free) if not any(pair in self.clash for pair in itertools.combinations(lot, 2))]
        greatest = max(self.sum(lot) for lot in good)
        return [lot for lot in good if self.sum(lot) == greatest]

    def sum(self, lot):
        return sum(self.worths[d] for d in lot)

    def chosen(self):
        lots, kept = self.best(self.free), []
        for d in self.free:
            if any(d in lot and set(kept) <= set(lot) for lot in lots):
                kept.append(d)
        return kept

    def of_name(self, name):
        return [d for d in self.free if self.facts.names[d] == name]

    def check(self, case, plan):
        names = sorted(set(self.facts.names.values()))
        case.assertEqual(plan.kept(), self.kept)
        case.assertEqual(list(plan.renames().items()), list(self.renames.items()))
        case.assertEqual(plan.barred(), self.barred)
        case.assertEqual(plan.worth, self.sum(self.kept))
        case.assertEqual(repr(plan), f"Plan({len(self.renames)} renames)")
        always, never = [], []
        for name in names:
            free = self.of_name(name)
            lots = self.best(free)
            always += [d for d in free if all(d in lot for lot in lots)]
            never += [d for d in free if not any(d in lot for lot in lots)]
            self.check_weights(case, plan.weights(name), free, self.sum(lots[0]))
        case.assertEqual(plan.always_kept(), [d for d in self.stretches if d in always])
        case.assertEqual(plan.never_kept(), [d for d in self.stretches if d in never])
        return always, never

    def check_weights(self, case, weights, free, greatest):
        case.assertEqual(list(weights), [block for block in self.facts.blocks if block in weights])
        case.assertTrue(all(isinstance(weight, int) and weight >= 1 for weight in weights.values()))
        case.assertEqual(sum(weights.values()), greatest)
        for d in free:
            case.assertGreaterEqual(sum(weights.get(block, 0) for block in self.stretches[d]), self.worths[d])


def cases():
    """(table, facts, stretches) with few declarations."""
    for seed in range(300):
        program = random_program(seed, rows=12, depth=3, kinds=MANY_CALLS if seed % 2 else "let let let out out block")
        program = named_by_chance(program, seed, ("a", "ab", "abc")[seed % 3])
        facts = Facts(program)
        if 2 <= len(facts.declarations) <= 8:
            yield Table(program), facts, facts.stretches()
            yield WideTable(program), facts, facts.wide_stretches()


def some_held(source, facts, stretches):
    """Some declarations that can be held together, in any order, and some of them twice."""
    clash = {(a, b) for a, b in met(stretches) if facts.names[a] == facts.names[b]}
    held = []
    for d in source.sample(list(stretches), min(len(stretches), source.choice([0, 0, 1, 2, 4]))):
        if not any((d, other) in clash for other in held):
            held.append(d)
    return held + held[:source.randint(0, 2)]


class HealTest(unittest.TestCase):
    def test_by_trying_all_lots(self):
        kinds = set()
        for seed, (table, facts, stretches) in enumerate(cases()):
            source = random.Random(seed)
            most = source.choice([1, 1, 2, 3, 1000])
            worths = {d: source.randint(1, most) for d in stretches if source.random() < 0.8}
            held = some_held(source, facts, stretches)
            avoid = source.choice([[], ["a"], ["c", "d", "f"], list(LETTERS), (*LETTERS, "ab")])
            given = (dict(worths), list(held), list(avoid))
            plan = heal(table, worths=worths, held=held, avoid=avoid)
            self.assertEqual((worths, held, list(avoid)), given)
            wanted = Wanted(facts, stretches, worths, held, avoid)
            always, never = wanted.check(self, plan)
            self.check_result(table, plan)
            kinds |= {("held", bool(held)), ("barred", bool(plan.barred())), ("never", bool(never))}
            kinds |= {("free", set(wanted.free) - set(always) - set(never) != set()), ("all", not plan.renames())}
            kinds |= {("longer", any(len(name) > 1 for name in plan.renames().values()))}
        self.assertEqual(len(kinds), 12)

    def check_result(self, table, plan):
        program, result = table.program, plan.result()
        self.assertEqual(result, program.renamed(plan.renames()))
        self.assertTrue(is_apart(table, result.names()))
        for d in program.declarations():
            self.assertEqual(result.name_of(d), plan.renames().get(d, program.name_of(d)))

    def test_great_programs(self):
        for program in wrong_programs(30, rows=80):
            for table in (Table(program), WideTable(program)):
                plan = heal(table)
                self.assertEqual(sorted(plan.kept() + list(plan.renames())), sorted(table.declarations()))
                self.assertEqual(plan.worth, len(plan.kept()))
                self.check_result(table, plan)
                weights = [plan.weights(name) for name in sorted(set(program.names().values()))]
                self.assertEqual(sum(sum(some.values()) for some in weights), plan.worth)
                self.assertEqual(set(plan.always_kept()) - set(plan.kept()), set())
                self.assertEqual(set(plan.never_kept()) & set(plan.kept()), set())
            self.assertTrue(is_right(heal(Table(program)).result()))

    def test_right_programs_stay(self):
        for program in (empty_program(), random_program(3), random_program(8)):
            plan = heal(Table(program))
            self.assertEqual((plan.renames(), plan.kept()), ({}, program.declarations()))
            self.assertEqual((plan.barred(), plan.never_kept()), ([], []))
            self.assertEqual(plan.always_kept(), program.declarations())
            self.assertEqual(plan.result(), program)

    def test_the_example(self):
        program = read_text("let x = 1\nblock {\nlet y = x\nout y + x\n}\n").renamed({at(7): "x"})
        plan = heal(Table(program))
        self.assertIsInstance(plan, Plan)
        self.assertEqual((plan.kept(), plan.renames(), plan.worth), ([at(2)], {at(7): "a"}, 1))
        self.assertEqual(program_text(plan.result()), "let x = 1\nblock {\n  let a = x\n  out a + x\n}\n")
        self.assertEqual(faults(plan.result()), [])

    def test_the_first_ones_are_kept_if_worths_are_equal(self):
        tree = [("let", "p", 1), ("let", "q", 1), ("let", "r", 1)]
        program = make(tree, names={"p": "x", "q": "x", "r": "x"})
        p, q, r = program.declarations()
        self.assertEqual(heal(Table(program)).kept(), [p])
        self.assertEqual(heal(Table(program), worths={r: 2}).kept(), [r])
        self.assertEqual(heal(Table(program), worths={q: 2, r: 2}).kept(), [q])
        plan = heal(Table(program), held=[r])
        self.assertEqual((plan.kept(), plan.barred(), plan.worth), ([r], [p, q], 1))
        self.assertEqual((plan.weights("x"), plan.always_kept(), plan.never_kept()), ({}, [], []))

    def test_two_below_against_one_above(self):
        # x of the root is used in both blocks, each of which has an x of its own.
        tree = [("let", "x", 1), ("block", [("let", "y", "x")]), ("block", [("let", "z", "x")])]
        program = make(tree, names={"y": "x", "z": "x"})
        x, y, z = program.declarations()
        plan = heal(Table(program))
        self.assertEqual((plan.kept(), plan.renames(), plan.worth), ([y, z], {x: "a"}, 2))
        self.assertEqual((plan.always_kept(), plan.never_kept()), ([y, z], [x]))
        even = heal(Table(program), worths={x: 2})
        self.assertEqual((even.kept(), even.always_kept(), even.never_kept()), ([x], [], []))
        self.assertEqual(heal(Table(program), worths={x: 3}).always_kept(), [x])

    def test_fresh_names(self):
        labels = [letter + other for letter in LETTERS for other in "ab"][:30]
        program = make([("let", label, 1) for label in labels], names={label: "b" for label in labels})
        plan = heal(Table(program), avoid=["c", "aa"])
        given = list(plan.renames().values())
        self.assertEqual(given[:3], ["a", "d", "e"])
        self.assertEqual(given[23:], ["z", "ab", "ac", "ad", "ae", "af"])
        self.assertEqual(heal(Table(program), avoid=list(LETTERS)).renames()[program.declarations()[1]], "aa")

    def test_a_name_that_goes_is_not_given_again(self):
        program = make([("let", "p", 1), ("let", "q", 1)], names={"p": "a", "q": "a"})
        self.assertEqual(list(heal(Table(program)).renames().values()), ["b"])

    def test_dead_declarations_keep_their_names(self):
        tree = [("let", "p", 1), ("let", "q", 1), ("def", "r", ("s", "t"), [])]
        program = make(tree, names={"p": "x", "q": "x", "r": "a", "s": "b", "t": "b"})
        p, q, r, s, t = program.declarations()
        plan = heal(WideTable(program))
        self.assertEqual((plan.kept(), plan.renames(), plan.worth), ([p, r], {q: "c"}, 2))
        self.assertEqual(plan.result().name_of(t), "b")
        self.assertEqual(plan.weights("b"), {})
        for call in (lambda: heal(WideTable(program), held=[s]), lambda: heal(WideTable(program), worths={s: 1})):
            with self.assertRaises(UnknownId) as caught:
                call()
            self.assertEqual(caught.exception.thing, s)

    def test_weights_of_other_values(self):
        plan = heal(Table(random_program(3)))
        for value in odd_values() + ["zz"]:
            self.assertEqual(plan.weights(value), {})

    def test_lists_and_dicts_are_new(self):
        program = make([("let", "p", 1), ("let", "q", 1), ("let", "r", 1)], names={"p": "x", "q": "x"})
        plan = heal(Table(program), held=[program.declarations()[0]])
        for read in (plan.kept, plan.renames, plan.barred, plan.always_kept, lambda: plan.weights("r")):
            self.assertTrue(read())
            read().clear()
            self.assertTrue(read())
        plan = heal(Table(program), worths={program.declarations()[0]: 2})
        plan.never_kept().clear()
        self.assertEqual(plan.never_kept(), [program.declarations()[1]])


class ErrorsTest(unittest.TestCase):
    def setUp(self):
        tree = [("let", "p", 1), ("let", "q", 1), ("let", "r", 1), ("block", [("let", "s", 1)])]
        self.program = make(tree, names={"p": "x", "q": "x", "r": "x", "s": "x"})
        self.table = Table(self.program)
        self.things = self.program.declarations()

    def refused(self, kind, **given):
        with self.assertRaises(kind) as caught:
            heal(self.table, **given)
        return caught.exception

    def test_unknown_keys(self):
        p, q, *_ = self.things
        self.assertEqual(self.refused(UnknownId, worths={("zz", 1): 1, p: 0, ("b", 2): 1, q: 1}).thing, ("b", 2))
        for value in odd_values() + [at(0), at(1)]:
            if isinstance(value, (list, dict)) or "[" in repr(value) or "Program" in repr(value) or "{" in repr(value):
                continue
            error = self.refused(UnknownId, worths={p: 1, value: 1, q: 0}, held=[None])
            self.assertEqual(repr(error.thing), repr(value))
        # Keys of different kinds: one of them, and the first one among those that compare.
        self.assertEqual(self.refused(UnknownId, worths={"z": 1, "b": 1, p: 1}).thing, "b")
        self.assertEqual(self.refused(UnknownId, worths={7: 1, 2: 1, p: 1}).thing, 2)
        self.assertIn(self.refused(UnknownId, worths={None: 1, 2: 1, p: 1, "": 1, ("", None): 1}).thing, [None, 2, "", ("", None)])

    def test_invalid_worths(self):
        p, q, r, s = self.things
        for value in odd_values() + [0, 1001, True]:
            if value in (1, 2) and value is not True:
                continue
            error = self.refused(InvalidWorth, worths={s: value, r: 1, q: value, p: 1000}, held=[None])
            self.assertEqual(error.declaration, q)
        self.assertEqual(heal(self.table, worths={p: 1, s: 1000}).worth, 1001)

    def test_worths_in_ascending_order(self):
        # In the reading order ("b", 1) comes first, in the ascending order ("", 5).
        rows = {("", 1): (("", 0), (1, 1), ("let", ("b", 1), ("number", ("", 2)))),
                ("", 4): (("", 0), (2, 1), ("let", ("", 5), ("number", ("", 6))))}
        program = self.program.__class__(
            ("", 0), rows, {("b", 1): "x", ("", 5): "y"}, {}, {("", 2): 1, ("", 6): 1}
        )
        with self.assertRaises(InvalidWorth) as caught:
            heal(Table(program), worths={("b", 1): 0, ("", 5): 0})
        self.assertEqual(caught.exception.declaration, ("", 5))

    def test_unknown_held_ones(self):
        p, q, *_ = self.things
        for value in odd_values() + [at(0), at(1)]:
            error = self.refused(UnknownId, held=[p, q, value, ("zz", 5)])
            self.assertEqual(repr(error.thing), repr(value))

    def test_beyond(self):
        p, q, r, s = self.things
        error = self.refused(Beyond, held=[r, q, p])
        self.assertEqual((error.first, error.second), (p, q))
        error = self.refused(Beyond, held=(r, s, q))
        self.assertEqual((error.first, error.second), (q, r))
        # One that stands twice does not meet itself, and what is apart may have one name.
        self.assertEqual(heal(self.table, held=[s, p, s, p]).kept(), [p, s])

    def test_beyond_goes_by_first_and_then_second(self):
        tree = [
            ("let", "p", 1), ("let", "q", 1), ("block", [("let", "r", "p"), ("let", "s", "q")]),
        ]
        program = make(tree, names={"p": "x", "q": "y", "r": "y", "s": "x"})
        p, q, r, s = program.declarations()
        for held in itertools.permutations([p, q, r, s]):
            with self.assertRaises(Beyond) as caught:
                heal(Table(program), held=list(held))
            self.assertEqual((caught.exception.first, caught.exception.second), (p, s))


if __name__ == "__main__":
    unittest.main()
