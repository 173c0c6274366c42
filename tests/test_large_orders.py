"""Drawn orders with all numbers up to the greatest ones: four kinds, two measures or three people."""

import unittest

from evenboxes.errors import TooMany
from evenboxes.reasons import reason
from evenboxes.sharing import is_sharing, possible, sharing, table, used
from tests.drawn import large_orders
from tests.judge import is_shared, possible_up_to, told_up_to_twelve, used_if_cut
from tests.refusals import RefusalCase

BOXES = (*range(1, 13), 13, 29, 10 ** 30, 10 ** 30 + 1, 10 ** 29 + 27)


class LargeOrdersTest(RefusalCase):
    def test_possible_sharing_and_used(self):
        seen = {"none": 0, "some": 0, "many": 0}
        for order in large_orders(400, 81):
            with self.subTest(order=str(order)):
                self.assertEqual(used(order), used_if_cut(order))
                seen[self.check(order)] += 1
        self.assertGreater(min(seen.values()), 20)

    def check(self, order):
        numbers = told_up_to_twelve(order)
        if numbers is None:
            for ask in (possible, lambda some: sharing(some, 0), lambda some: reason(some, 0)):
                self.refuse(TooMany, "limit", 12, lambda: ask(order))
            return "many"
        found = possible(order)
        self.assertEqual([n for n in range(13) if n in found], numbers)
        self.assertIs(bool(found), used(order) != ())
        for boxes in BOXES:
            self.check_sharing(order, boxes, boxes in found)
        return "some" if found else "none"

    def check_sharing(self, order, boxes, is_possible):
        shared = sharing(order, boxes)
        self.assertIs(shared is not None, is_possible)
        self.assertIs(reason(order, boxes) is None, is_possible)
        if is_possible:
            self.assertTrue(is_shared(order, boxes, shared))
            self.assertIs(is_sharing(order, boxes, shared), True)

    def test_the_last_element_of_a_table_tells_whether_a_number_is_possible(self):
        told = 0
        for order in large_orders(60, 82):
            numbers = possible_up_to(order, 5)
            for boxes in range(6):
                try:
                    found = table(order, boxes)
                except TooMany:
                    continue
                told += 1
                due = tuple(top for row in order.due(boxes) for top, _ in row)
                self.assertIs(found != () and found[-1] == (due,), boxes in numbers, (str(order), boxes))
        self.assertGreater(told, 200)


if __name__ == "__main__":
    unittest.main()
