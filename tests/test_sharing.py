import unittest

from evenboxes.errors import TooMany
from evenboxes.sharing import is_sharing, possible, sharing
from tests.drawn import small_orders
from tests.judge import is_shared, ways_to_share
from tests.orders_told import ANSWERED, EGGS, FRUIT, FUSSY, NOT_TOLD
from tests.refusals import RefusalCase

GREAT = (10 ** 30, 10 ** 30 + 1, 10 ** 29 + 7, 27720 * 10 ** 25, 10 ** 58 + 11)


class SharingTest(RefusalCase):
    def check(self, order, boxes, is_possible):
        found = sharing(order, boxes)
        if not is_possible:
            self.assertIsNone(found)
            return
        self.assertIs(type(found), tuple)
        self.assertEqual([type(row) for row in found], [tuple] * len(order.people))
        self.assertEqual([len(row) for row in found], [len(order.kinds)] * len(order.people))
        for row in found:
            for many in row:
                self.assertIs(type(many), int)
                self.assertGreaterEqual(many, 0)
        self.assertTrue(is_shared(order, boxes, found))
        self.assertIs(is_sharing(order, boxes, found), True)
        self.assertEqual(sharing(order=order, boxes=boxes), found)

    def test_of_the_document(self):
        self.assertEqual(sharing(FUSSY, 0), ((0, 0), (0, 0)))

    def test_by_hand(self):
        self.assertEqual(sharing(FRUIT, 0), ((0, 0), (0, 0)))
        self.assertIsNone(sharing(FRUIT, 1))
        self.assertIn(sharing(FRUIT, 3), (((1, 3), (5, 0)), ((5, 0), (1, 3))))
        self.assertEqual(sharing(EGGS, 2), ((3,), (3,)))
        self.assertIsNone(sharing(EGGS, 3))
        self.assertEqual(sharing(EGGS, 10 ** 40), ((3 * 10 ** 40 // 2,), (3 * 10 ** 40 // 2,)))
        self.assertIsNone(sharing(EGGS, 10 ** 40 + 1))
        for boxes in (1, 2, 12, 13, 10 ** 40):
            self.assertIsNone(sharing(FUSSY, boxes))

    def test_all_numbers_of_the_orders_that_are_told(self):
        for order, _ in ANSWERED:
            numbers = possible(order)
            for boxes in [*range(31), *GREAT]:
                with self.subTest(order=str(order), boxes=boxes):
                    self.check(order, boxes, boxes in numbers)

    def test_small_orders(self):
        found = {True: 0, False: 0}
        for order in small_orders(240, 51):
            try:
                numbers = possible(order)
            except TooMany:
                self.refuse(TooMany, "limit", 12, lambda: sharing(order, 0), lambda: sharing(order, boxes=6))
                continue
            for boxes in range(6):
                with self.subTest(order=str(order), boxes=boxes):
                    is_possible = ways_to_share(order, boxes) > 0
                    found[is_possible] += 1
                    self.check(order, boxes, is_possible)
            for boxes in GREAT:
                with self.subTest(order=str(order), boxes=boxes):
                    self.check(order, boxes, boxes in numbers)
        self.assertGreater(min(found.values()), 200)

    def test_no_boxes(self):
        for order, _ in ANSWERED:
            self.assertEqual(sharing(order, 0), ((0,) * len(order.kinds),) * len(order.people))

    def test_too_many_for_each_number(self):
        for order, _ in NOT_TOLD:
            for boxes in (0, 1, 5, 12, 13, 14, 24, 60, 10 ** 30):
                self.refuse(TooMany, "limit", 12, lambda: sharing(order, boxes), lambda: sharing(order, boxes=boxes))


if __name__ == "__main__":
    unittest.main()
