"""Wrong orders and numbers, in the order of the signature, for all that is asked with an order."""

import unittest

from evenboxes.errors import InvalidNumber, NotAnOrder
from evenboxes.mending import least_changes
from evenboxes.orders import Order
from evenboxes.reasons import reason
from evenboxes.sharing import is_sharing, possible, sharing, table, used
from tests.orders_told import EGGS, FRUIT, FUSSY, NOT_TOLD
from tests.refusals import RefusalCase
from tests.samples import Liar, fruit, values_of_all_kinds

NO_ORDERS = [value for value in values_of_all_kinds() if not isinstance(value, Order)] + [
    0, 1, str(FRUIT), fruit(), list(fruit()), repr(FRUIT), Liar(),
]
NO_NUMBERS = values_of_all_kinds() + [-2, "1", (1,), [0], {0: 1}, b"2", Liar()]
ORDERS = (FRUIT, FUSSY, EGGS, NOT_TOLD[0][0], NOT_TOLD[-1][0])


class AskedWronglyTest(RefusalCase):
    def test_no_order(self):
        for value in NO_ORDERS:
            self.refuse(
                NotAnOrder, "given", value,
                lambda: possible(value), lambda: possible(order=value),
                lambda: used(value), lambda: used(order=value),
                lambda: table(value, 1), lambda: table(boxes=1, order=value),
                lambda: sharing(value, 1), lambda: sharing(boxes=1, order=value),
                lambda: reason(value, 1), lambda: reason(boxes=1, order=value),
                lambda: is_sharing(value, 1, ()), lambda: is_sharing(sharing=(), boxes=1, order=value),
                lambda: least_changes(value, 1, ()), lambda: least_changes(changes=(), boxes=1, order=value),
            )

    def test_no_order_comes_first(self):
        for value in (None, 3, "x", (), Liar()):
            for boxes in (None, -1, 13, "1", True, Liar()):
                self.refuse(
                    NotAnOrder, "given", value,
                    lambda: table(value, boxes), lambda: sharing(value, boxes), lambda: reason(value, boxes),
                    lambda: is_sharing(value, boxes, None), lambda: least_changes(value, boxes, None),
                    lambda: table(boxes=boxes, order=value), lambda: sharing(boxes=boxes, order=value),
                    lambda: reason(boxes=boxes, order=value), lambda: is_sharing(sharing=1, boxes=boxes, order=value),
                )

    def test_no_number(self):
        for order in ORDERS:
            for value in NO_NUMBERS:
                self.refuse(
                    InvalidNumber, "given", value,
                    lambda: table(order, value), lambda: table(boxes=value, order=order),
                    lambda: sharing(order, value), lambda: sharing(boxes=value, order=order),
                    lambda: reason(order, value), lambda: reason(boxes=value, order=order),
                    lambda: is_sharing(order, value, ((0, 0), (0, 0))),
                    lambda: is_sharing(sharing=None, boxes=value, order=order),
                    lambda: least_changes(order, value, None),
                    lambda: least_changes(changes=None, boxes=value, order=order),
                )


if __name__ == "__main__":
    unittest.main()
