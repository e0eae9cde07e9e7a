"""The examples of the document."""

import unittest

from piercednames.carried import WideTable
from piercednames.choices import least_wrong
from piercednames.desk import Desk
from piercednames.drafts import Draft
from piercednames.errors import BadText
from piercednames.heals import heal
from piercednames.meaning import faults
from piercednames.merges import Merge
from piercednames.namings import count_namings, fewest_names, nth_naming
from piercednames.positions import middle, position_behind
from piercednames.runs import Run
from piercednames.stretches import Table
from piercednames.texts import read_text
from piercednames.writing import program_text

TEXT = 'let x = 1\nblock {\nlet y = x\nout y + x\n}\n'


class ExamplesTest(unittest.TestCase):
    def test_namings(self):
        table = Table(read_text(TEXT))
        names = ['a', 'b', 'c']
        told = [
            table.stretch(('', 2)).blocks(), table.meeting(), fewest_names(table), count_namings(table, names),
            nth_naming(table, names, 3),
        ]
        self.assertEqual(told, [[('', 0), ('', 5)], [(('', 2), ('', 7))], 2, 6, {('', 2): 'b', ('', 7): 'c'}])

    def test_heals(self):
        program = read_text(TEXT).renamed({('', 7): 'x'})
        plan = heal(Table(program))
        self.assertEqual([faults(program)[0], plan.kept(), plan.renames(), plan.worth, program_text(plan.result())], [
            ('caught', ('', 8), ('', 2), ('', 7), ('', 5)), [('', 2)], {('', 7): 'a'}, 1,
            'let x = 1\nblock {\n  let a = x\n  out a + x\n}\n',
        ])

    def test_merges(self):
        base = read_text('let x = 1\nblock {\nout x\n}\n')
        ann, bob = Draft(base, 'ann'), Draft(base, 'bob')
        ann.edit(('rename', ('', 2), 'y'))
        bob.edit(('put', ('', 5), None, ('let', 'y', 0)))
        merge = Merge(base, ann.net(), bob.net())
        told = [Merge(base, ann.net()).is_right(), merge.is_right(), merge.name_faults(), least_wrong(base, merge.net())]
        self.assertEqual(told, [
            True, False, [('caught', ('', 7), ('', 2), ('bob', 2), ('', 5))], [('name', ('', 2)), ('new', ('bob', 1))],
        ])

    def test_runs(self):
        program = read_text('let x = 1\ndef p() {\nout x\n}\nblock {\nlet x = 2\ndo p()\n}\n')
        one, other, table = Run(program), Run(program, by='callers'), WideTable(program)
        told = [one.run(), one.outputs(), other.run(), other.outputs(), other.untrue(), table.wants(('', 5)), table.clashing()]
        self.assertEqual(told, [9, [1], 9, [2], 1, [('', 2)], [(('', 2), ('', 12))]])

    def test_desks(self):
        desk = Desk()
        desk.do(
            ('base', 'let x = 1\nblock {\nout x\n}\n'), ('draft', 'ann'), ('edit', 'ann', ('rename', ('', 2), 'y')), ('join', 'ann'),
            ('accept',),
        )
        self.assertEqual([desk('names'), desk('out'), desk('right'), desk.history(), desk.journal()], [
            '1', '1', 'error NoMerge', (1, 0),
            'base 4\nlet x = 1\nblock {\n  out x\n}\ndraft ann\nedit ann rename .2 y\njoin ann\naccept\n',
        ])

    def test_texts(self):
        with self.assertRaises(BadText) as caught:
            read_text('let a = b\n')
        error = caught.exception
        self.assertEqual((error.line, error.place, error.why), (0, 8, 'unknown'))

    def test_positions(self):
        told = [
            middle((1, 1), (2, 1)), position_behind(None, (1, 2)), position_behind((7, 2), None),
            position_behind((3, 2), (3, 2)),
        ]
        self.assertEqual(told, [(3, 2), (1, 4), (9, 2), None])


if __name__ == "__main__":
    unittest.main()
