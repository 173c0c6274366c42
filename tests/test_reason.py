import unittest

from evenboxes.errors import TooMany
from evenboxes.reasons import reason
from evenboxes.sharing import possible
from tests.drawn import small_orders
from tests.judge import divisor_of, divisor_of_possible, possible_up_to, told_up_to_twelve
from tests.orders_told import ANSWERED, EGGS, FRUIT, FUSSY, NOT_TOLD
from tests.refusals import RefusalCase


class ReasonTest(RefusalCase):
    def test_of_the_document(self):
        self.assertEqual([reason(EGGS, 3), reason(FRUIT, 1), reason(FUSSY, 5)], ["multiples", "not", "nothing"])

    def test_by_hand(self):
        self.assertEqual([reason(FRUIT, n) for n in (0, 1, 2, 3, 10 ** 40)], [None, "not", None, None, None])
        self.assertEqual([reason(EGGS, n) for n in (0, 1, 2, 10 ** 40, 10 ** 40 + 1)],
                         [None, "multiples", None, None, "multiples"])
        self.assertEqual([reason(FUSSY, n) for n in (0, 1, 12, 13, 10 ** 40)], [None] + ["nothing"] * 4)
        self.assertEqual(reason(order=FRUIT, boxes=1), "not")
        self.assertEqual(reason(boxes=1, order=FRUIT), "not")

    def test_the_orders_that_are_told(self):
        words = set()
        for order, generators in ANSWERED:
            divisor = divisor_of(generators)
            for boxes in range(31):
                if boxes in possible(order):
                    expected = None
                elif not generators:
                    expected = "nothing"
                else:
                    expected = "multiples" if boxes % divisor else "not"
                words.add(expected)
                with self.subTest(order=str(order), boxes=boxes):
                    self.assertEqual(reason(order, boxes), expected)
        self.assertEqual(words, {None, "nothing", "multiples", "not"})

    def test_small_orders(self):
        for order in small_orders(240, 71):
            told = told_up_to_twelve(order)
            if told is not None and len(told) > 1:
                numbers = possible_up_to(order, 24)
                divisor = divisor_of_possible(order)
                expected = [
                    None if n in numbers else "multiples" if n % divisor else "not" for n in range(25)
                ]
                with self.subTest(order=str(order)):
                    self.assertEqual([reason(order, n) for n in range(25)], expected)

    def test_too_many_for_each_number(self):
        for order, _ in NOT_TOLD:
            for boxes in (0, 1, 12, 13, 24, 60, 10 ** 30):
                self.refuse(TooMany, "limit", 12, lambda: reason(order, boxes), lambda: reason(order, boxes=boxes))


if __name__ == "__main__":
    unittest.main()
