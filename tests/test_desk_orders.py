import unittest

from evenboxes.desks import Desk
from evenboxes.errors import InUse, InvalidName, NotAnOrder, UnknownName
from evenboxes.orders import Order
from tests.desks_told import desk_with, state
from tests.orders_told import EGGS, FRUIT, FUSSY, NOT_TOLD
from tests.refusals import RefusalCase
from tests.samples import Liar, fruit, names_refused, values_of_all_kinds

NAMES = ("a", "z", "abcdefgh", "a2345678", "z0", "names", "desk", "order")
NO_ORDERS = [value for value in values_of_all_kinds() if not isinstance(value, Order)] + [0, 1, str(FRUIT), fruit()]


class DeskOrdersTest(RefusalCase):
    def test_at_first_it_is_empty(self):
        desk = Desk()
        self.assertEqual(state(desk), ((), (), (), 0, 0))
        self.assertIs(type(desk.changes), int)
        self.assertIs(type(len(desk)), int)
        self.assertIs(bool(desk), True)
        self.assertIs("a" in desk, False)

    def test_orders_under_names(self):
        desk = Desk()
        for at, name in enumerate(NAMES):
            order = (FRUIT, FUSSY, EGGS)[at % 3]
            desk[name] = order
            self.assertIs(desk[name], order)
            self.assertIs(name in desk, True)
            self.assertEqual((len(desk), desk.changes), (at + 1, at + 1))
            self.assertEqual(desk.names, tuple(sorted(NAMES[:at + 1])))
        self.assertIs(bool(desk), True)

    def test_an_order_whose_numbers_are_not_told(self):
        desk = Desk()
        for order, _ in NOT_TOLD:
            desk["a"] = order
            self.assertIs(desk["a"], order)

    def test_in_the_place_of_another_one(self):
        desk = desk_with(("a", FRUIT), ("b", FRUIT), ("a", EGGS), ("a", EGGS))
        self.assertEqual(state(desk), (("a", "b"), (EGGS, FRUIT), (), 4, 2))

    def test_removed(self):
        desk = desk_with(("a", FRUIT), ("b", EGGS), ("c", FUSSY))
        self.assertIsNone(desk.remove("b"))
        self.assertEqual(state(desk), (("a", "c"), (FRUIT, FUSSY), (), 4, 2))
        self.assertIs("b" in desk, False)
        self.assertIsNone(desk.remove(name="a"))
        self.assertIsNone(desk.remove("c"))
        self.assertEqual(state(desk), ((), (), (), 6, 0))
        self.assertIs(bool(desk), True)
        desk["b"] = FRUIT
        self.assertEqual(state(desk), (("b",), (FRUIT,), (), 7, 1))

    def test_a_desk_equals_itself_alone(self):
        desk, other = Desk(), Desk()
        self.assertIs(desk == desk, True)
        self.assertIs(desk != desk, False)
        self.assertIs(desk == other, False)
        self.assertIs(desk != other, True)
        for value in values_of_all_kinds() + [Liar(), FRUIT]:
            self.assertIs(desk == value, False)
            self.assertIs(desk != value, True)
        desk["a"] = FRUIT
        self.assertIs(desk == desk, True)

    def test_desks_have_nothing_in_common(self):
        one, other = desk_with(("a", FRUIT)), Desk()
        one.promise(("from", "a", 2))
        self.assertEqual(state(other), ((), (), (), 0, 0))

    def test_whatever_is_asked_for_in_a_desk(self):
        desk = desk_with(("a", FRUIT), ("plum", FRUIT))
        for value in names_refused() + ["b", "aa", FRUIT, desk, ("a",)]:
            self.assertIs(value in desk, False)
        self.assertIs("plum" in desk, True)

    def test_what_is_told_stays_as_it_was(self):
        desk = desk_with(("a", FRUIT), ("b", EGGS))
        desk.promise(("from", "a", 2))
        names, promises = desk.names, desk.promises
        desk.lift(0)
        desk.remove("a")
        self.assertEqual((names, promises), (("a", "b"), (("from", "a", 2),)))
        self.assertIs(type(names), tuple)
        self.assertIs(type(promises), tuple)


class RefusedOrdersTest(RefusalCase):
    def setUp(self):
        self.desk = desk_with(("a", FRUIT), ("b", EGGS))
        self.desk.promise(("possible", "b", 2))
        self.before = state(self.desk)

    def tearDown(self):
        self.assertEqual(state(self.desk), self.before)
        self.assertEqual(self.desk.undo(), None)
        self.assertEqual(self.desk.promises, ())

    def put(self, name, order):
        self.desk[name] = order

    def test_no_name_comes_first(self):
        for name in names_refused():
            for order in (FRUIT, None, 1, Liar()):
                self.refuse(InvalidName, "given", name, lambda: self.put(name, order))

    def test_no_order(self):
        for value in NO_ORDERS:
            self.refuse(NotAnOrder, "given", value, lambda: self.put("a", value), lambda: self.put("new", value))

    def test_names_that_are_not_there(self):
        for name in names_refused() + ["c", "aa", "fruit", FRUIT, ("a",), ["a"]]:
            self.refuse(
                UnknownName, "given", name,
                lambda: self.desk[name], lambda: self.desk.remove(name), lambda: self.desk.remove(name=name),
            )

    def test_in_use(self):
        self.desk.promise(("within", "b", "a"))
        self.desk.promise(("from", "a", 2))
        self.refuse(InUse, "index", 0, lambda: self.desk.remove("b"))
        self.refuse(InUse, "index", 1, lambda: self.desk.remove("a"), lambda: self.desk.remove(name="a"))
        self.desk.lift(0)
        self.refuse(InUse, "index", 0, lambda: self.desk.remove("a"), lambda: self.desk.remove("b"))
        self.desk.lift(0)
        self.refuse(InUse, "index", 0, lambda: self.desk.remove("a"))
        self.assertIsNone(self.desk.remove("b"))
        for _ in range(5):
            self.desk.undo()


if __name__ == "__main__":
    unittest.main()
