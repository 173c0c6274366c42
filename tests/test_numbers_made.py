import unittest

from evenboxes.errors import InvalidGenerators
from evenboxes.numbers import Numbers
from tests.drawn import Draws, drawn_generators
from tests.judge import divisor_of, generators_in, members, sums_below
from tests.refusals import RefusalCase
from tests.samples import Liar, not_in_range, values_of_all_kinds


class MadeTest(unittest.TestCase):
    def test_of_the_document(self):
        some = Numbers((6, 4, 9, 10))
        self.assertEqual((some.generators, some.divisor), ((4, 6, 9), 1))

    def test_by_hand(self):
        for given, generators, divisor in (
            ((), (), 0),
            ((1,), (1,), 1),
            ((1000,), (1000,), 1000),
            ((1, 1000), (1,), 1),
            ((1000, 1), (1,), 1),
            ((999, 1000), (999, 1000), 1),
            ((1000, 500), (500,), 500),
            ((1000, 300, 400), (300, 400), 100),
            ((1000, 300, 700), (300, 700), 100),
            ((3, 3), (3,), 3),
            ((6, 3, 6, 3, 9), (3,), 3),
            ((5, 2), (2, 5), 1),
            ((2, 5, 7), (2, 5), 1),
            ((6, 10, 15), (6, 10, 15), 1),
            ((12, 18, 30), (12, 18), 6),
            (tuple(range(1, 1001)), (1,), 1),
            (tuple(range(1000, 0, -1)), (1,), 1),
            (tuple(range(500, 1001)), tuple(range(500, 1000)), 1),
            (tuple(range(501, 1001)), tuple(range(501, 1001)), 1),
        ):
            with self.subTest(given=given[:5]):
                for some in (Numbers(given), Numbers(generators=given)):
                    self.assertEqual((some.generators, some.divisor), (generators, divisor))

    def test_without_argument(self):
        self.assertEqual((Numbers().generators, Numbers().divisor), ((), 0))
        self.assertEqual(Numbers(), Numbers(()))

    def test_generators_are_no_sums_for_many_sets(self):
        draws = Draws(3)
        for _ in range(400):
            given = drawn_generators(draws, 7, draws.one_of((6, 12, 40, 100)))
            some = Numbers(given)
            with self.subTest(given=given):
                least = generators_in(members(sums_below(101, given)))
                self.assertEqual(some.generators, least)
                self.assertEqual(some.divisor, divisor_of(given))
                self.assertIs(type(some.generators), tuple)
                self.assertEqual({type(number) for number in some.generators} - {int}, set())

    def test_what_is_passed_is_not_changed(self):
        given = (6, 4, 9, 10, 4)
        Numbers(given)
        self.assertEqual(given, (6, 4, 9, 10, 4))

    def test_text(self):
        for given, text in (
            ((), "Numbers()"), ((4,), "Numbers(4)"), ((3, 2), "Numbers(2, 3)"), ((6, 4, 9, 10), "Numbers(4, 6, 9)"),
            ((1000, 1), "Numbers(1)"), ((1000, 999), "Numbers(999, 1000)"),
        ):
            self.assertEqual(repr(Numbers(given)), text)

    def test_truth(self):
        self.assertIs(bool(Numbers()), False)
        self.assertIs(bool(Numbers(())), False)
        for given in ((1,), (1000,), (2, 3)):
            self.assertIs(bool(Numbers(given)), True)

    def test_equality(self):
        sets = [Numbers(given) for given in ((), (1,), (2,), (3,), (2, 3), (2, 5), (4, 6), (4, 6, 9), (1000,))]
        for at, one in enumerate(sets):
            for place, other in enumerate(sets):
                self.assertIs(one == other, at == place)
                self.assertIs(one != other, at != place)
        for given, same in (((2, 3), (3, 2, 2, 4, 5, 1000)), ((), ()), ((1,), (1, 7)), ((4, 6), (6, 10, 4))):
            self.assertIs(Numbers(given) == Numbers(same), True)
            self.assertIs(Numbers(given) != Numbers(same), False)

    def test_equal_to_nothing_else(self):
        for some in (Numbers(), Numbers((2, 3))):
            for value in values_of_all_kinds() + [0, 2, (2, 3), [2, 3], "Numbers(2, 3)", "Numbers()", Liar()]:
                with self.subTest(value=value):
                    self.assertIs(some == value, False)
                    self.assertIs(some != value, True)

    def test_in_the_class_itself(self):
        for name in ("__init__", "generators", "divisor", "gaps", "onward", "below", "within", "__contains__",
                     "__add__", "__and__", "__eq__", "__repr__", "__bool__"):
            self.assertIn(name, vars(Numbers))


class GeneratorsRefusedTest(RefusalCase):
    def check(self, index, given):
        self.refuse(InvalidGenerators, "index", index, lambda: Numbers(given), lambda: Numbers(generators=given))

    def test_no_tuple(self):
        for value in values_of_all_kinds() + [2, [2, 3], {2: 3}, "23", b"23", iter((2, 3)), Numbers((2, 3))]:
            if value != () or not isinstance(value, tuple):
                self.check(None, value)

    def test_each_place(self):
        right = (2, 3, 1000, 1)
        for value in not_in_range(1, 1000) + [0, 1001, (2,), Numbers((2,)), "2"]:
            for at in range(5):
                self.check(at, right[:at] + (value,) + right[at:])

    def test_true_is_not_one(self):
        self.check(0, (True,))
        self.check(1, (1, True))
        self.check(2, (2, 3, False))

    def test_the_first_one_of_several(self):
        self.check(1, (5, 0, -1, "x"))
        self.check(0, (1001, 1001))
        self.check(0, ((), 2, None))


if __name__ == "__main__":
    unittest.main()
