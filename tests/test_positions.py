import random
import unittest
from fractions import Fraction

from piercednames.positions import is_below, lowest, middle, ordered, position_behind


def random_position(source):
    return lowest(source.randint(1, 10 ** source.randint(1, 12)), 2 ** source.randint(0, 40))


class PositionsTest(unittest.TestCase):
    def test_lowest(self):
        for over, under, pair in ((1, 1, (1, 1)), (2, 4, (1, 2)), (6, 4, (3, 2)), (8, 2, (4, 1)), (3, 8, (3, 8))):
            self.assertEqual(lowest(over, under), pair)
        self.assertEqual(lowest(10 ** 30, 10 ** 30), (1, 1))
        self.assertEqual(lowest(over=2 ** 70, under=2 ** 71), (1, 2))

    def test_middle(self):
        self.assertEqual(middle((1, 1), (2, 1)), (3, 2))
        self.assertEqual(middle((1, 1), (3, 1)), (2, 1))
        self.assertEqual(middle((1, 2), (5, 8)), (9, 16))
        self.assertEqual(middle((2, 1), (1, 1)), (3, 2))
        self.assertEqual(middle((7, 4), (7, 4)), (7, 4))
        self.assertEqual(middle(one=(1, 2 ** 60), other=(1, 1)), (2 ** 60 + 1, 2 ** 61))

    def test_is_below(self):
        self.assertIs(is_below((1, 1), (2, 1)), True)
        self.assertIs(is_below((2, 1), (1, 1)), False)
        self.assertIs(is_below((1, 1), (1, 1)), False)
        self.assertIs(is_below((9, 8), (5, 4)), True)
        self.assertIs(is_below((5, 4), (9, 8)), False)
        self.assertIs(is_below(one=(10, 1), other=(9, 1)), False)

    def test_far_positions_are_told_apart(self):
        big = 2 ** 200
        self.assertIs(is_below((big, big + 0), (big + 1, big)), True)
        self.assertIs(is_below((big + 1, big), (1, 1)), False)
        self.assertEqual(middle((1, 1), (big + 1, big)), (2 * big + 1, 2 * big))

    def test_behind(self):
        self.assertEqual(position_behind(None, None), (1, 1))
        self.assertEqual(position_behind(None, (1, 2)), (1, 4))
        self.assertEqual(position_behind(None, (2, 1)), (1, 1))
        self.assertEqual(position_behind(None, (6, 1)), (3, 1))
        self.assertEqual(position_behind((7, 2), None), (9, 2))
        self.assertEqual(position_behind((3, 1), None), (4, 1))
        self.assertEqual(position_behind((1, 1), (2, 1)), (3, 2))
        self.assertEqual(position_behind(one=(3, 2), other=(2, 1)), (7, 4))

    def test_no_room(self):
        self.assertIsNone(position_behind((3, 2), (3, 2)))
        self.assertIsNone(position_behind((1, 1), (1, 1)))

    def test_against_fractions(self):
        source = random.Random(1)
        for _ in range(500):
            one, other = random_position(source), random_position(source)
            wanted = (Fraction(*one) + Fraction(*other)) / 2
            self.assertEqual(middle(one, other), (wanted.numerator, wanted.denominator))
            self.assertIs(is_below(one, other), Fraction(*one) < Fraction(*other))
            low, high = sorted([one, other], key=lambda pair: Fraction(*pair))
            between = position_behind(low, high)
            if low == high:
                self.assertIsNone(between)
            else:
                self.assertTrue(is_below(low, between) and is_below(between, high))

    def test_the_example_of_the_document(self):
        found = [
            middle((1, 1), (2, 1)), position_behind(None, (1, 2)), position_behind((7, 2), None),
            position_behind((3, 2), (3, 2)),
        ]
        self.assertEqual(found, [(3, 2), (1, 4), (9, 2), None])


class OrderedTest(unittest.TestCase):
    def test_nothing(self):
        self.assertEqual(ordered([]), [])

    def test_by_fractions(self):
        pairs = [((2, 1), ("", 1)), ((1, 1), ("", 2)), ((3, 2), ("", 3)), ((1, 4), ("", 4)), ((10, 1), ("", 5))]
        self.assertEqual(ordered(pairs), [("", 4), ("", 2), ("", 3), ("", 1), ("", 5)])

    def test_equal_ones_by_ids(self):
        pairs = [((1, 1), ("bob", 1)), ((1, 1), ("", 20)), ((1, 2), ("zed", 9)), ((1, 1), ("", 3)), ((1, 1), ("ann", 10))]
        self.assertEqual(ordered(pairs), [("zed", 9), ("", 3), ("", 20), ("ann", 10), ("bob", 1)])

    def test_near_ones(self):
        big = 2 ** 100
        pairs = [((big + 1, big), ("", 1)), ((1, 1), ("", 2)), ((big - 1, big), ("", 3))]
        self.assertEqual(ordered(pairs), [("", 3), ("", 2), ("", 1)])

    def test_the_list_stays(self):
        pairs = [((2, 1), ("", 1)), ((1, 1), ("", 2))]
        kept = list(pairs)
        ordered(pairs).append(None)
        self.assertEqual(pairs, kept)
        self.assertEqual(ordered(tuple(pairs)), [("", 2), ("", 1)])

    def test_against_fractions(self):
        source = random.Random(2)
        for _ in range(50):
            pairs = [(random_position(source), ("", number)) for number in range(30)]
            pairs += [(position, ("ann", number)) for number, (position, _) in enumerate(pairs[:5])]
            source.shuffle(pairs)
            wanted = sorted(pairs, key=lambda pair: (Fraction(*pair[0]), pair[1]))
            self.assertEqual(ordered(pairs), [thing for _, thing in wanted])


if __name__ == "__main__":
    unittest.main()
