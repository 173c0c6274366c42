import unittest
from fractions import Fraction

from evenboxes.errors import InvalidNumber
from evenboxes.orders import Order
from tests.samples import BIG, fruit, valid_arguments, values_of_all_kinds

NUMBERS = list(range(13)) + [60, 97, 1000, BIG - 1, 6 * BIG // 10, 10 ** 49 + 7]


def expected_due(measures, kinds, people, boxes):
    """What is due, by fractions of Python's own."""
    shares = sum(share for _, share, _ in people)
    rows = []
    for _, share, _ in people:
        worths = [sum(count * worths[m] for _, count, worths in kinds) for m in range(len(measures))]
        parts = [Fraction(boxes * worth * share, shares) for worth in worths]
        rows.append(tuple((part.numerator, part.denominator) for part in parts))
    return tuple(rows)


class DueTest(unittest.TestCase):
    def test_of_the_document(self):
        order = Order(("weight",), (("plum", 2, (3,)), ("pear", 1, (4,))), (("ann", 1, ()), ("bob", 1, ())))
        self.assertEqual(order.due(3), (((15, 1),), ((15, 1),)))

    def test_by_hand(self):
        order = Order(*fruit())
        self.assertEqual(order.due(0), (((0, 1), (0, 1)), ((0, 1), (0, 1))))
        self.assertEqual(order.due(1), (((16, 3), (14, 3)), ((32, 3), (28, 3))))
        self.assertEqual(order.due(3), (((16, 1), (14, 1)), ((32, 1), (28, 1))))
        self.assertEqual(order.due(10 ** 49), (
            ((16 * 10 ** 49, 3), (14 * 10 ** 49, 3)),
            ((32 * 10 ** 49, 3), (28 * 10 ** 49, 3)),
        ))

    def test_three_people(self):
        order = Order(("n",), (("egg", 1, (1,)),), (("a", 1, ()), ("b", 2, ()), ("c", 3, ("egg",))))
        self.assertEqual(order.due(1), (((1, 6),), ((1, 3),), ((1, 2),)))
        self.assertEqual(order.due(4), (((2, 3),), ((4, 3),), ((2, 1),)))
        self.assertEqual(order.due(6), (((1, 1),), ((2, 1),), ((3, 1),)))

    def test_nothing_of_worth(self):
        order = Order(("n",), (("air", 3, (0,)),), (("a", 3, ()), ("b", 3, ())))
        self.assertEqual(order.due(BIG - 1), (((0, 1),), ((0, 1),)))

    def test_lowest_terms_for_all_orders(self):
        for arguments in valid_arguments():
            order = Order(*arguments)
            for boxes in NUMBERS:
                with self.subTest(text=str(order), boxes=boxes):
                    self.assertEqual(order.due(boxes), expected_due(*arguments, boxes))

    def test_tuples_of_integers(self):
        for boxes in (0, 1, BIG - 1):
            for person in Order(*fruit()).due(boxes):
                self.assertIs(type(person), tuple)
                for pair in person:
                    self.assertIs(type(pair), tuple)
                    self.assertEqual([type(part) for part in pair], [int, int])

    def test_by_position_and_by_name(self):
        order = Order(*fruit())
        self.assertEqual(order.due(boxes=5), order.due(5))

    def test_invalid_numbers(self):
        order = Order(*fruit())
        for value in values_of_all_kinds() + ["1", "", (1,), [0], -2]:
            for ask in (lambda: order.due(value), lambda: order.due(boxes=value)):
                with self.subTest(value=value):
                    with self.assertRaises(InvalidNumber) as caught:
                        ask()
                    self.assertIs(type(caught.exception), InvalidNumber)
                    self.assertIs(caught.exception.given, value)


if __name__ == "__main__":
    unittest.main()
