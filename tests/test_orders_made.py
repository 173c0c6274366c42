import copy
import unittest

from evenboxes import orders
from evenboxes.orders import Order
from tests.samples import FRUIT_TEXT, Liar, expected_text, fruit, valid_arguments, values_of_all_kinds

DOCUMENT_ORDER = (
    ("weight",),
    (("plum", 2, (3,)), ("pear", 1, (4,))),
    (("ann", 1, ()), ("bob", 1, ())),
)


class MadeTest(unittest.TestCase):
    def test_the_texts_of_the_document(self):
        self.assertEqual(str(Order(*fruit())), FRUIT_TEXT)
        self.assertEqual(
            str(Order(*DOCUMENT_ORDER)),
            "measure weight\nkind plum 2: 3\nkind pear 1: 4\nperson ann 1\nperson bob 1",
        )

    def test_by_position_and_by_name(self):
        for measures, kinds, people in valid_arguments():
            text = expected_text(measures, kinds, people)
            with self.subTest(text=text):
                self.assertEqual(str(Order(measures, kinds, people)), text)
                self.assertEqual(str(Order(people=people, kinds=kinds, measures=measures)), text)
                self.assertEqual(str(Order(measures, people=people, kinds=kinds)), text)

    def test_properties_are_what_was_passed(self):
        for arguments in valid_arguments():
            order = Order(*arguments)
            with self.subTest(text=str(order)):
                self.assertIs(order.measures, arguments[0])
                self.assertIs(order.kinds, arguments[1])
                self.assertIs(order.people, arguments[2])

    def test_what_was_passed_stays_as_it_was(self):
        for arguments in valid_arguments():
            before = copy.deepcopy(arguments)
            order = Order(*arguments)
            str(order), repr(order), order.due(7), order == Order(*before)
            self.assertEqual(arguments, before)
            self.assertEqual((order.measures, order.kinds, order.people), before)

    def test_properties_are_not_assigned(self):
        order = Order(*fruit())
        for name in ("measures", "kinds", "people"):
            with self.subTest(name=name), self.assertRaises(AttributeError):
                setattr(order, name, ())
        self.assertEqual(str(order), FRUIT_TEXT)

    def test_repr_for_all_numbers(self):
        for measures, kinds, people in valid_arguments():
            told = "Order of %d kinds, %d people" % (len(kinds), len(people))
            self.assertEqual(repr(Order(measures, kinds, people)), told)
        self.assertEqual(repr(Order(*DOCUMENT_ORDER)), "Order of 2 kinds, 2 people")
        one = Order(("w",), (("egg", 1, (0,)),), (("a", 1, ()), ("b", 1, ()), ("c", 1, ())))
        self.assertEqual(repr(one), "Order of 1 kinds, 3 people")

    def test_an_order_is_true(self):
        for arguments in valid_arguments():
            self.assertIs(bool(Order(*arguments)), True)

    def test_the_same_names_among_measures_kinds_and_people(self):
        order = Order(("a",), (("a", 1, (1,)), ("b", 1, (1,))), (("a", 1, ("a",)), ("b", 1, ("b",))))
        self.assertEqual(str(order), "measure a\nkind a 1: 1\nkind b 1: 1\nperson a 1 without a\nperson b 1 without b")

    def test_bounds_of_counts_worths_and_shares(self):
        for count in (1, 2, 3):
            for worth in range(7):
                for share in (1, 2, 3):
                    order = Order(("w",), (("egg", count, (worth,)),), (("a", share, ()), ("b", 1, ("egg",))))
                    text = f"measure w\nkind egg {count}: {worth}\nperson a {share}\nperson b 1 without egg"
                    self.assertEqual(str(order), text)

    def test_everybody_may_refuse_everything(self):
        order = Order(("w",), (("egg", 1, (1,)), ("ham", 1, (1,))), (("a", 1, ("egg", "ham")), ("b", 1, ("egg", "ham"))))
        self.assertEqual(order.people[1], ("b", 1, ("egg", "ham")))

    def test_names_of_all_letters_and_digits(self):
        letters = "abcdefghijklmnopqrstuvwxyz"
        for sign in letters + "0123456789":
            for name in ("q" + sign, "q" + sign * 7) + ((sign, sign * 8) if sign in letters else ()):
                order = Order((name,), ((name, 1, (1,)),), ((name, 1, ()), ("other", 1, (name,))))
                self.assertEqual(order.measures, (name,))

    def test_what_the_interface_lists_stands_in_the_class_itself(self):
        self.assertEqual(Order.__module__, orders.__name__)
        for name in ("__init__", "read", "measures", "kinds", "people", "due", "__eq__", "__str__", "__repr__"):
            self.assertIn(name, vars(Order))


class EqualTest(unittest.TestCase):
    def test_equal_exactly_if_the_texts_are(self):
        made = [Order(*arguments) for arguments in valid_arguments()[::3]]
        again = [Order(*copy.deepcopy((one.measures, one.kinds, one.people))) for one in made]
        for one in made:
            for other in again:
                same = str(one) == str(other)
                self.assertIs(one == other, same)
                self.assertIs(one != other, not same)

    def test_each_change_of_an_argument_makes_another_order(self):
        measures, kinds, people = fruit()
        order = Order(measures, kinds, people)
        others = [
            (measures[::-1], kinds, people),
            (("weight", "prize"), kinds, people),
            (measures, kinds[::-1], (people[0], ("bob", 2, ("fig", "plum")))),
            (measures, (("plum", 2, (2, 1)),) + kinds[1:], people),
            (measures, (("plum", 3, (1, 2)),) + kinds[1:], people),
            (measures, kinds[:1] + (("peach", 2, (5, 4)),) + kinds[2:], people),
            (measures, kinds, people[::-1]),
            (measures, kinds, (("ann", 3, ()), people[1])),
            (measures, kinds, (("ann", 1, ("pear",)), people[1])),
            (measures, kinds, (people[0], ("bob", 2, ("plum",)))),
            (measures, kinds, (people[0], ("bob", 2, ()))),
            (measures, kinds, (people[0], ("rob", 2, ("plum", "fig")))),
        ]
        for arguments in others:
            with self.subTest(arguments=arguments):
                self.assertIs(order == Order(*arguments), False)
                self.assertIs(order != Order(*arguments), True)

    def test_never_equal_to_a_value_of_another_class(self):
        order = Order(*fruit())
        values = [value for value in values_of_all_kinds() if not isinstance(value, (Order, Liar))]
        for value in values + [FRUIT_TEXT, fruit(), repr(order), 1, 0]:
            with self.subTest(value=value):
                self.assertIs(order == value, False)
                self.assertIs(value == order, False)
                self.assertIs(order != value, True)
                self.assertIs(value != order, True)

    def test_equal_to_itself(self):
        order = Order(*fruit())
        self.assertIs(order == order, True)
        self.assertIs(order != order, False)

    def test_orders_beside_liars(self):
        self.assertIs(Order(*fruit()) == Liar(), False)
        self.assertIs(Order(*fruit()) != Liar(), True)


if __name__ == "__main__":
    unittest.main()
