import unittest

from evenboxes.errors import TooMany
from evenboxes.numbers import Numbers
from evenboxes.sharing import possible
from tests.drawn import Draws, drawn_order, small_orders
from tests.judge import generators_in, possible_up_to, reaches, told_up_to_twelve, used_if_cut, ways_to_share
from tests.orders_told import ANSWERED, FRUIT, FUSSY, NOT_TOLD
from tests.refusals import RefusalCase


class PossibleTest(RefusalCase):
    def test_of_the_document(self):
        self.assertEqual(possible(FRUIT).generators, (2, 3))
        self.assertEqual(possible(FUSSY).generators, ())

    def test_by_hand(self):
        for order, generators in ANSWERED:
            with self.subTest(order=str(order)):
                self.assertEqual(possible(order).generators, generators)
                self.assertEqual(possible(order=order), Numbers(generators))
                self.assertIs(type(possible(order)), Numbers)

    def test_what_is_told_by_hand_is_right(self):
        for order, generators in ANSWERED:
            with self.subTest(order=str(order)):
                self.assertEqual(generators_in(possible_up_to(order, 40)), generators)

    def test_the_judges_agree(self):
        # Ways are counted kind by kind, or just looked for thing by thing: both tell the same.
        for order in small_orders(240, 41):
            for boxes in range(5):
                self.assertEqual(ways_to_share(order, boxes) > 0, reaches(order, boxes), (str(order), boxes))

    def test_numbers_with_ways_to_share_for_small_orders(self):
        answered = 0
        for order in small_orders(400, 42):
            try:
                numbers = possible(order)
            except TooMany:
                continue
            answered += bool(numbers)
            with self.subTest(order=str(order)):
                self.assertEqual([n in numbers for n in range(6)], [ways_to_share(order, n) > 0 for n in range(6)])
        self.assertGreater(answered, 150)

    def test_told_by_the_numbers_up_to_twelve_or_not(self):
        draws = Draws(43)
        seen = {"none": 0, "some": 0, "many": 0}
        for at in range(600):
            people, measures = ((2, 1), (2, 2), (3, 1))[at % 3]
            order = drawn_order(draws, draws.among(1, 4), people, measures, refusing=draws.among(3, 12))
            numbers = told_up_to_twelve(order)
            with self.subTest(order=str(order)):
                if numbers is None:
                    seen["many"] += 1
                    self.refuse(TooMany, "limit", 12, lambda: possible(order), lambda: possible(order=order))
                else:
                    seen["some" if len(numbers) > 1 else "none"] += 1
                    self.assertEqual(possible(order).generators, generators_in(numbers))
        self.assertGreater(min(seen.values()), 20)

    def test_numbers_up_to_sixty(self):
        draws = Draws(44)
        answered = 0
        for at in range(150):
            people, measures = ((2, 1), (2, 2), (3, 1))[at % 3]
            order = drawn_order(draws, draws.among(1, 2 if people == 3 else 4), people, measures, refusing=8)
            try:
                found = possible(order)
            except TooMany:
                continue
            answered += bool(found)
            with self.subTest(order=str(order)):
                self.assertEqual([n for n in range(61) if n in found], possible_up_to(order, 60))
        self.assertGreater(answered, 60)

    def test_nought_alone_just_if_things_that_are_cut_do_not_help(self):
        seen = set()
        for order in small_orders(300, 45):
            none = used_if_cut(order) == ()
            seen.add(none)
            try:
                self.assertIs(not possible(order), none, str(order))
            except TooMany:
                self.assertFalse(none, str(order))
        self.assertEqual(seen, {True, False})

    def test_not_told_by_the_numbers_up_to_twelve(self):
        for order, least in NOT_TOLD:
            with self.subTest(order=str(order)):
                self.assertIsNone(told_up_to_twelve(order))
                numbers = possible_up_to(order, 60)
                if least is None:
                    self.assertLess(numbers[1], 13)
                else:
                    self.assertGreater(numbers[1], 12)
                    self.assertEqual(numbers[1:len(least) + 1], list(least))
                self.refuse(TooMany, "limit", 12, lambda: possible(order), lambda: possible(order=order))

    def test_the_divisor_may_show_in_great_numbers_alone(self):
        order = NOT_TOLD[-1][0]
        self.assertEqual(possible_up_to(order, 59), list(range(0, 60, 8)))
        self.assertTrue(reaches(order, 60))
        self.refuse(TooMany, "limit", 12, lambda: possible(order))


if __name__ == "__main__":
    unittest.main()
