import unittest

from evenboxes.errors import InvalidNumber, TooMany
from evenboxes.numbers import Numbers
from evenboxes.orders import Order
from tests.drawn import Draws, drawn_generators
from tests.judge import divisor_of, members, sums_below
from tests.refusals import RefusalCase
from tests.samples import BIG, Liar, fruit, values_of_all_kinds

NO_NUMBERS = values_of_all_kinds() + ["1", "", (1,), [0], -2, -BIG, Numbers(), Numbers((1,))]


def many_sets(seed, many=200):
    draws = Draws(seed)
    found = [(), (1,), (2,), (7,), (2, 3), (4, 6, 9), (1000,), (30, 42, 70), (25, 35)]
    return found + [drawn_generators(draws, 5, draws.one_of((6, 15, 30))) for _ in range(many)]


class HoldsTest(unittest.TestCase):
    def test_of_the_document(self):
        self.assertIs(11 in Numbers((6, 4, 9, 10)), False)

    def test_small_numbers(self):
        for given in many_sets(5):
            some = Numbers(given)
            bits = sums_below(200, given)
            with self.subTest(given=given):
                self.assertEqual([n in some for n in range(200)], [bool(bits >> n & 1) for n in range(200)])

    def test_great_numbers(self):
        for given in many_sets(6, 60):
            some = Numbers(given)
            divisor = divisor_of(given)
            for number in (BIG, BIG + 1, BIG + 5, BIG + 6, 10 ** 59 - 1):
                self.assertIs(number in some, divisor > 0 and number % divisor == 0)

    def test_just_from_some_number_on(self):
        some = Numbers((999, 1000))
        self.assertIs(999 * 1000 - 1999 in some, False)
        for number in range(999 * 1000 - 1998, 999 * 1000 + 3):
            self.assertIs(number in some, True)

    def test_nought_is_in_each_and_alone_in_one(self):
        for given in many_sets(7, 20):
            self.assertIs(0 in Numbers(given), True)
        self.assertEqual([n for n in range(2000) if n in Numbers()], [0])
        self.assertIs(BIG in Numbers(), False)

    def test_values_of_all_kinds(self):
        for some in (Numbers(), Numbers((1,)), Numbers((2, 3))):
            for value in NO_NUMBERS + [-1, -3, None, True, False, "0", (0,), (), Order(*fruit()), Liar()]:
                with self.subTest(value=value):
                    self.assertIs(value in some, False)
                    self.assertIs(value not in some, True)


class GapsTest(RefusalCase):
    def test_of_the_document(self):
        self.assertEqual(Numbers((6, 4, 9, 10)).gaps(), (1, 2, 3, 5, 7, 11))

    def test_by_hand(self):
        for given, gaps in (
            ((), ()), ((1,), ()), ((4,), ()), ((1000,), ()), ((2, 3), (1,)), ((4, 6), (2,)), ((10, 15), (5,)),
            ((2, 999), tuple(range(1, 998, 2))), ((500, 1000), ()), (tuple(range(500, 1001)), tuple(range(1, 500))),
        ):
            self.assertEqual(Numbers(given).gaps(), gaps)
        self.assertEqual(max(Numbers((6, 9, 20)).gaps()), 43)

    def test_many_sets(self):
        for given in many_sets(8):
            divisor = divisor_of(given)
            bits = sums_below(1200, given)
            with self.subTest(given=given):
                gaps = Numbers(given).gaps()
                expected = [n for n in range(divisor, 1200, divisor) if not bits >> n & 1] if given else []
                self.assertEqual(gaps, tuple(expected))
                self.assertIs(type(gaps), tuple)

    def test_the_greatest_one_just_within(self):
        # The greatest gap of two numbers without common divisor is their product less both; here times 8.
        self.assertEqual(max(Numbers((24, 512)).gaps()), 1000)
        self.assertEqual(max(Numbers((2, 999)).gaps()), 997)
        self.assertEqual(max(Numbers((3, 500)).gaps()), 997)

    def test_the_greatest_one_just_beyond(self):
        for given in ((3, 502), (3, 503), (999, 1000), (34, 35), (501, 1000), (12, 518)):
            some = Numbers(given)
            self.refuse(TooMany, "limit", 1000, some.gaps)

    def test_the_limit_is_met_by_the_greatest_gap_alone(self):
        draws = Draws(9)
        seen = set()
        for _ in range(300):
            given = drawn_generators(draws, 3, 80)
            bits = sums_below(8000, given)
            divisor = divisor_of(given)
            gaps = [n for n in range(divisor, 8000, divisor) if not bits >> n & 1] if given else []
            beyond = bool(gaps) and gaps[-1] > 1000
            seen.add(beyond)
            if beyond:
                self.refuse(TooMany, "limit", 1000, Numbers(given).gaps)
            else:
                self.assertEqual(Numbers(given).gaps(), tuple(gaps))
        self.assertEqual(seen, {True, False})


class OnwardTest(RefusalCase):
    def test_of_the_document(self):
        self.assertEqual(Numbers((6, 4, 9, 10)).onward(11), 12)

    def test_small_numbers(self):
        for given in many_sets(10):
            some = Numbers(given)
            numbers = members(sums_below(400, given))
            for start in range(60):
                with self.subTest(given=given, start=start):
                    expected = next((n for n in numbers if n >= start), None)
                    if given and expected is None:
                        continue
                    self.assertEqual(some.onward(start), expected)

    def test_by_hand(self):
        self.assertEqual([Numbers().onward(n) for n in (0, 1, 2, BIG)], [0, None, None, None])
        self.assertEqual([Numbers((1000,)).onward(n) for n in (0, 1, 1000, 1001, BIG)], [0, 1000, 1000, 2000, BIG])
        self.assertEqual([Numbers((1,)).onward(n) for n in (0, 1, 2, BIG)], [0, 1, 2, BIG])
        self.assertEqual(Numbers((999, 1000)).onward(999 * 1000 - 1999), 999 * 1000 - 1998)

    def test_great_numbers(self):
        for given in many_sets(11, 60):
            divisor = divisor_of(given)
            for start in (BIG, BIG + 1, BIG - 1, 10 ** 59 + 7):
                expected = start + -start % divisor if divisor else None
                self.assertEqual(Numbers(given).onward(start), expected)

    def test_by_name(self):
        self.assertEqual(Numbers((4,)).onward(start=5), 8)

    def test_invalid_numbers(self):
        for some in (Numbers(), Numbers((2, 3))):
            for value in NO_NUMBERS:
                self.refuse(InvalidNumber, "given", value, lambda: some.onward(value), lambda: some.onward(start=value))


class BelowTest(RefusalCase):
    def test_of_the_document(self):
        self.assertEqual(Numbers((6, 4, 9, 10)).below(10), 5)

    def test_small_numbers(self):
        for given in many_sets(12):
            some = Numbers(given)
            numbers = members(sums_below(100, given))
            with self.subTest(given=given):
                self.assertEqual(
                    [some.below(end) for end in range(100)], [sum(n < end for n in numbers) for end in range(100)],
                )

    def test_by_hand(self):
        self.assertEqual([Numbers().below(n) for n in (0, 1, 2, BIG)], [0, 1, 1, 1])
        self.assertEqual([Numbers((1,)).below(n) for n in (0, 1, 2, BIG)], [0, 1, 2, BIG])
        self.assertEqual([Numbers((1000,)).below(n) for n in (0, 1, 1000, 1001, 2001, BIG)], [0, 1, 1, 2, 3, BIG // 1000])

    def test_great_numbers(self):
        for given in many_sets(13, 60):
            divisor = divisor_of(given)
            if divisor:
                bits = sums_below(3000, given)
                gaps = sum(not bits >> n & 1 for n in range(0, 3000, divisor))
                for end in (BIG, BIG + 1, BIG + 10, 10 ** 59 + 7):
                    self.assertEqual(Numbers(given).below(end), (end - 1) // divisor + 1 - gaps)

    def test_by_name(self):
        self.assertEqual(Numbers((4,)).below(end=9), 3)

    def test_invalid_numbers(self):
        for some in (Numbers(), Numbers((2, 3))):
            for value in NO_NUMBERS:
                self.refuse(InvalidNumber, "given", value, lambda: some.below(value), lambda: some.below(end=value))


if __name__ == "__main__":
    unittest.main()
