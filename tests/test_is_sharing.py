import unittest
from itertools import product

from evenboxes.sharing import is_sharing
from tests.drawn import Draws, drawn_order
from tests.judge import is_shared
from tests.orders_told import EGGS, FRUIT, FUSSY, WORTHLESS
from tests.samples import Liar, values_of_all_kinds


def all_rows(many, most):
    """All tuples of so many tuples of the integers up to these."""
    return product(product(*[range(end + 1) for end in most]), repeat=many)


class IsSharingTest(unittest.TestCase):
    def test_of_the_document(self):
        self.assertIs(is_sharing(FRUIT, 2, ((2, 1), (2, 1))), True)

    def test_by_hand(self):
        for order, boxes, sharing, expected in (
            (FRUIT, 2, ((2, 1), (2, 1)), True),
            (FRUIT, 2, ((2, 1), (1, 1)), False),
            (FRUIT, 2, ((2, 1), (2, 2)), False),
            (FRUIT, 2, ((0, 1), (4, 1)), False),
            (FRUIT, 3, ((2, 1), (2, 1)), False),
            (FRUIT, 3, ((1, 3), (5, 0)), True),
            (FRUIT, 3, ((5, 0), (1, 3)), True),
            (FRUIT, 0, ((0, 0), (0, 0)), True),
            (FRUIT, 1, ((0, 0), (0, 0)), False),
            (FUSSY, 0, ((0, 0), (0, 0)), True),
            (FUSSY, 2, ((2, 1), (2, 1)), False),
            (EGGS, 2, ((3,), (3,)), True),
            (EGGS, 1, ((1,), (2,)), False),
            (EGGS, 1, ((3,), (0,)), False),
        ):
            with self.subTest(order=str(order), boxes=boxes, sharing=sharing):
                self.assertIs(is_sharing(order, boxes, sharing), expected)
                self.assertIs(is_sharing(sharing=sharing, boxes=boxes, order=order), expected)

    def test_all_there_is_for_small_orders(self):
        draws = Draws(21)
        found = {True: 0, False: 0}
        for at in range(120):
            people, measures = ((2, 1), (2, 2), (3, 1))[at % 3]
            order = drawn_order(draws, draws.among(1, 2), people, measures, refusing=4, counts=2, worths=2, shares=2)
            for boxes in range(3):
                most = [min(boxes * count + 1, 3 if people == 3 else 5) for _, count, _ in order.kinds]
                for rows in all_rows(people, most):
                    expected = is_shared(order, boxes, rows)
                    found[expected] += 1
                    if is_sharing(order, boxes, rows) is not expected:
                        self.fail((str(order), boxes, rows))
        self.assertGreater(min(found.values()), 300)

    def test_great_numbers(self):
        for times in (10 ** 29, 10 ** 30 + 7, 10 ** 55):
            sharing = ((2 * times, times), (2 * times, times))
            self.assertIs(is_sharing(FRUIT, 2 * times, sharing), True)
            self.assertIs(is_sharing(FRUIT, 2 * times + 1, sharing), False)
            self.assertIs(is_sharing(FRUIT, 2 * times, ((2 * times + 4, times - 3), (2 * times - 4, times + 3))), True)
            self.assertIs(is_sharing(FRUIT, 2 * times, ((2 * times + 1, times), (2 * times - 1, times))), False)

    def test_what_is_refused(self):
        # Of no worth, so that nothing but the refusal is in the way.
        self.assertIs(is_sharing(WORTHLESS, 2, ((0, 1), (2, 1))), True)
        self.assertIs(is_sharing(WORTHLESS, 2, ((1, 1), (1, 1))), False)
        self.assertIs(is_sharing(WORTHLESS, 2, ((2, 1), (0, 1))), False)

    def test_integers_below_nought(self):
        self.assertIs(is_sharing(FRUIT, 3, ((9, -3), (-3, 6))), False)
        self.assertIs(is_sharing(FRUIT, 3, ((-3, 6), (9, -3))), False)
        self.assertIs(is_sharing(FRUIT, 0, ((4, -3), (-4, 3))), False)

    def test_values_of_all_kinds(self):
        values = values_of_all_kinds() + [0, 1, "((2, 1), (2, 1))", Liar(), FRUIT, is_sharing, {0: (2, 1), 1: (2, 1)}]
        for value in values:
            with self.subTest(value=value):
                self.assertIs(is_sharing(FRUIT, 2, value), False)
                self.assertIs(is_sharing(FRUIT, 0, value), False)
                self.assertIs(is_sharing(FRUIT, 2, (value, (2, 1))), False)
                self.assertIs(is_sharing(FRUIT, 2, ((2, 1), value)), False)
                self.assertIs(is_sharing(FRUIT, 2, (value, value)), False)
        for value in values:
            if value != 1 or isinstance(value, (bool, Liar)):
                self.assertIs(is_sharing(FRUIT, 2, ((2, value), (2, 1))), False)
                self.assertIs(is_sharing(FRUIT, 2, ((2, 1), (2, value))), False)
                self.assertIs(is_sharing(FRUIT, 2, ((2, value), (2, value))), False)

    def test_true_and_false_are_no_integers(self):
        self.assertIs(is_sharing(FRUIT, 0, ((False, 0), (0, 0))), False)
        self.assertIs(is_sharing(FRUIT, 0, ((0, 0), (0, False))), False)
        self.assertIs(is_sharing(FRUIT, 2, ((2, True), (2, 1))), False)
        self.assertIs(is_sharing(FRUIT, 3, ((True, 3), (5, 0))), False)

    def test_lists_are_no_tuples(self):
        self.assertIs(is_sharing(FRUIT, 2, [(2, 1), (2, 1)]), False)
        self.assertIs(is_sharing(FRUIT, 2, ([2, 1], (2, 1))), False)
        self.assertIs(is_sharing(FRUIT, 2, ((2, 1), [2, 1])), False)

    def test_other_lengths(self):
        for sharing in (
            (), ((2, 1),), ((2, 1), (2, 1), (0, 0)), ((2, 1), (2, 1), ()), ((2,), (2, 1)), ((2, 1), (2,)), ((), ()),
            ((2, 1, 0), (2, 1)), ((2, 1), (2, 1, 0)), (((2, 1), (2, 1)),), (2, 1, 2, 1), ((2, (1,)), (2, 1)),
        ):
            self.assertIs(is_sharing(FRUIT, 2, sharing), False)
        for sharing in ((), ((),), ((), ()), ((0, 0),), ((0,), (0,)), ((0, 0), (0, 0), (0, 0))):
            self.assertIs(is_sharing(FRUIT, 0, sharing), False)

    def test_what_is_passed_is_not_changed(self):
        rows = [[2, 1], [2, 1]]
        is_sharing(FRUIT, 2, rows)
        self.assertEqual(rows, [[2, 1], [2, 1]])


if __name__ == "__main__":
    unittest.main()
