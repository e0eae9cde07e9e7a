"""If two names are exchanged in a whole program, all that goes by names changes just as they do."""

import random
import re
import unittest

from piercednames.carried import WideTable
from piercednames.errors import NamesError
from piercednames.heals import heal
from piercednames.meaning import faults, found
from piercednames.parting import deal_cells, fewest_cells, parting
from piercednames.runs import Run
from piercednames.stretches import Table
from piercednames.texts import read_text
from piercednames.writing import program_text
from tests.reference_runs import told
from tests.samples import right_programs, single_programs, wrong_programs


def exchanged(program, one, other):
    """The program in which two names are exchanged, each of them longer or shorter than the other one."""
    table = {one: other, other: one}
    return program.renamed({thing: table.get(name, name) for thing, name in program.names().items()})


def pairs():
    """(program, the same with two names exchanged, these names)."""
    for seed, program in enumerate(wrong_programs(60) + single_programs(80) + right_programs(60)):
        source = random.Random(seed)
        names = sorted(set(program.names().values()))
        if len(names) > 1:
            # One of them becomes longer, so that texts and orders of names differ more.
            longer = program.renamed({thing: "zzz" for thing, name in program.names().items() if name == names[0]})
            one, other = "zzz", source.choice(names[1:])
            yield longer, exchanged(longer, one, other), one, other


def run_told(program, **given):
    try:
        run = Run(program, **given)
    except NamesError as error:
        return vars(error)
    run.run(80)
    return told(run)


class ExchangeTest(unittest.TestCase):
    def test_faults_and_pairs(self):
        for program, changed, _, _ in pairs():
            self.assertEqual(faults(program), faults(changed))
            self.assertEqual([found(program, use) for use in program.uses()], [found(changed, use) for use in program.uses()])
            for kind in (Table, WideTable):
                self.assertEqual(kind(program).clashing(), kind(changed).clashing())
                self.assertEqual(kind(program).meeting(), kind(changed).meeting())

    def test_the_written_text(self):
        seen = 0
        for program, changed, one, other in pairs():
            table = {one: other, other: one}
            text = re.sub("[a-z]+", lambda match: table.get(match.group(), match.group()), program_text(program))
            self.assertEqual(program_text(changed), text)
            if not faults(program):
                seen += 1
                # Read again, the uses mean what they did, as far as ids go by the reading order.
                self.assertEqual(read_text(text).uses(), read_text(program_text(program)).uses())
                self.assertEqual(
                    [read_text(text).meaning(use) for use in read_text(text).uses()],
                    [read_text(program_text(program)).meaning(use) for use in read_text(text).uses()],
                )
        self.assertGreater(seen, 20)

    def test_runs(self):
        for seed, (program, changed, _, _) in enumerate(pairs()):
            source = random.Random(seed)
            inputs = [source.randint(0, 3) for _ in range(3)]
            choices = [source.randint(0, 2) for _ in range(20)]
            for by in ("meaning", "text", "callers"):
                for given in ({"inputs": inputs}, {"inputs": inputs, "choices": choices}):
                    self.assertEqual(run_told(program, by=by, **given), run_told(changed, by=by, **given))

    def test_cells_of_runs(self):
        checked = 0
        for program, changed, one, other in pairs():
            order = sorted(set(program.names().values()))
            moved = {order.index(one): order.index(other), order.index(other): order.index(one)}
            before, after = run_told(program, by="cells"), run_told(changed, by="cells")
            if "cells" in before:
                checked += 1
                cells = {moved.get(cell, cell): held for cell, held in before["cells"].items()}
                self.assertEqual(after["cells"], cells)
                frames = [
                    (block, many, tuple((moved.get(cell, cell), *held) for cell, *held in kept))
                    for block, many, kept in before["frames"]
                ]
                self.assertEqual(after["frames"], frames)
                for key in ("outputs", "notes", "untrue", "ended", "step_count"):
                    self.assertEqual(before[key], after[key])
            else:
                self.assertEqual(before, after)
        self.assertGreater(checked, 60)

    def test_parting_and_dealt_cells(self):
        for program, changed, _, _ in pairs():
            self.assertEqual(deal_cells(program), deal_cells(changed))
            self.assertEqual(fewest_cells(program), fewest_cells(changed))
            for by in Run.WAYS:
                try:
                    wanted = parting(program, by=by)
                except NamesError as error:
                    with self.assertRaises(error.__class__):
                        parting(changed, by=by)
                else:
                    self.assertEqual(parting(changed, by=by), wanted)

    def test_heals(self):
        for program, changed, one, other in pairs():
            plan, again = heal(Table(program)), heal(Table(changed))
            self.assertEqual((plan.kept(), plan.renames(), plan.worth), (again.kept(), again.renames(), again.worth))
            self.assertEqual((plan.weights(one), plan.weights(other)), (again.weights(other), again.weights(one)))


if __name__ == "__main__":
    unittest.main()
