import unittest

from evenboxes.errors import NotNumbers, TooMany
from evenboxes.numbers import Numbers
from evenboxes.orders import Order
from tests.drawn import Draws, drawn_generators
from tests.judge import generators_in, members, sums_below
from tests.refusals import RefusalCase
from tests.samples import BIG, Liar, fruit, values_of_all_kinds

NO_SETS = values_of_all_kinds() + [0, 3, (2, 3), [2, 3], {2, 3}, "Numbers(2)", Numbers, Liar(), Order(*fruit())]


def pairs(seed, many, most_many, most):
    draws = Draws(seed)
    edges = [(), (1,), (1000,), (2,), (3,), (2, 3)]
    found = [(one, other) for one in edges for other in edges]
    return found + [
        (drawn_generators(draws, most_many, most), drawn_generators(draws, most_many, most)) for _ in range(many)
    ]


class SumsTest(RefusalCase):
    def test_all_sums(self):
        for one, other in pairs(1, 200, 4, 30):
            with self.subTest(one=one, other=other):
                joined = Numbers(one) + Numbers(other)
                sums = {
                    a + b for a in members(sums_below(120, one)) for b in members(sums_below(120, other))
                    if a + b < 120
                }
                self.assertEqual({n for n in range(120) if n in joined}, sums)
                self.assertEqual(joined, Numbers(one + other))
                self.assertIs(type(joined), Numbers)

    def test_by_hand(self):
        self.assertEqual((Numbers((4, 6)) + Numbers((9, 10))).generators, (4, 6, 9))
        self.assertEqual((Numbers() + Numbers()).generators, ())
        self.assertEqual((Numbers((1000,)) + Numbers((999,))).generators, (999, 1000))
        self.assertEqual(repr(Numbers((2,)) + Numbers((3,))), "Numbers(2, 3)")

    def test_what_is_joined_stays_as_it_was(self):
        one, other = Numbers((4, 6)), Numbers((9,))
        one + other
        one & other
        one.within(other)
        self.assertEqual((one.generators, other.generators), ((4, 6), (9,)))
        kept = one
        one += other
        self.assertEqual((kept.generators, one.generators), ((4, 6), (4, 6, 9)))

    def test_not_numbers(self):
        for value in NO_SETS:
            self.refuse(NotNumbers, "given", value, lambda: Numbers() + value, lambda: Numbers((2, 3)) + value)


class CommonTest(RefusalCase):
    def test_of_the_document(self):
        self.assertEqual(repr(Numbers((6, 4, 9, 10)) & Numbers((3,))), "Numbers(6, 9)")

    def test_by_hand(self):
        for one, other, generators in (
            ((), (), ()), ((), (5,), ()), ((1000,), (), ()), ((1,), (2, 3), (2, 3)), ((2,), (3,), (6,)),
            ((8,), (1000,), (1000,)), ((8,), (125,), (1000,)), ((2, 3), (2, 3), (2, 3)), ((2, 5), (3, 4), (4, 6, 7, 9)),
            ((999,), (333,), (999,)), ((1000,), (1000,), (1000,)), ((999, 1000), (1,), (999, 1000)),
            ((4, 6), (6, 9), (6,)),
        ):
            with self.subTest(one=one, other=other):
                self.assertEqual((Numbers(one) & Numbers(other)).generators, generators)
                self.assertEqual((Numbers(other) & Numbers(one)).generators, generators)

    def test_what_is_in_both(self):
        answered = 0
        for one, other in pairs(2, 300, 4, 25):
            both = sums_below(6000, one) & sums_below(6000, other)
            generators = generators_in([n for n in members(both) if n <= 3000])
            with self.subTest(one=one, other=other):
                if generators and generators[-1] > 1000:
                    self.refuse(TooMany, "limit", 1000, lambda: Numbers(one) & Numbers(other))
                    continue
                common = Numbers(one) & Numbers(other)
                answered += 1
                self.assertEqual(common.generators, generators)
                self.assertEqual([n for n in range(6000) if n in common], members(both))
                for number in (BIG, BIG + 1, BIG + 2520, BIG // 27 * 27):
                    self.assertIs(number in common, number in Numbers(one) and number in Numbers(other))
        self.assertGreater(answered, 250)

    def test_generators_beyond_the_limit(self):
        for one, other in (
            ((7,), (143,)), ((999,), (1000,)), ((2,), (501,)), ((1000,), (3,)), ((40,), (27,)),
            # The least number in both is within the limit, and another generator is not.
            ((34, 35), (33, 37)), ((50, 51), (1000, 7)), ((100, 101), (100, 103)),
        ):
            self.refuse(TooMany, "limit", 1000, lambda: Numbers(one) & Numbers(other))
            self.refuse(TooMany, "limit", 1000, lambda: Numbers(other) & Numbers(one))

    def test_each_side_of_the_limit(self):
        seen = set()
        for one, other in pairs(4, 120, 3, 90):
            both = sums_below(20000, one) & sums_below(20000, other)
            generators = generators_in([n for n in members(both) if n <= 4000])
            beyond = bool(generators) and generators[-1] > 1000 or bool(one and other) and not generators
            least_within = bool(generators) and generators[0] <= 1000
            seen.add((beyond, least_within))
            with self.subTest(one=one, other=other):
                if beyond:
                    self.refuse(TooMany, "limit", 1000, lambda: Numbers(one) & Numbers(other))
                else:
                    self.assertEqual((Numbers(one) & Numbers(other)).generators, generators)
        self.assertEqual(seen, {(True, True), (True, False), (False, True), (False, False)})

    def test_not_numbers_comes_first(self):
        for value in NO_SETS:
            self.refuse(NotNumbers, "given", value, lambda: Numbers() & value, lambda: Numbers((999, 1000)) & value)


class WithinTest(RefusalCase):
    def test_of_the_document(self):
        self.assertIsNone(Numbers((6, 4, 9, 10)).within(Numbers((2, 3))))

    def test_by_hand(self):
        for one, other, missing in (
            ((), (), None), ((), (7,), None), ((7,), (), 7), ((1,), (2,), 1), ((4, 6), (2,), None), ((4, 7), (2,), 7),
            ((2, 3), (4, 6, 9), 2), ((4, 6, 9), (4, 6), 9), ((1000,), (1,), None), ((1,), (1000,), 1),
            ((999, 1000), (999,), 1000), ((500, 1000), (250,), None),
        ):
            self.assertEqual(Numbers(one).within(Numbers(other)), missing)
            self.assertEqual(Numbers(one).within(other=Numbers(other)), missing)

    def test_many_sets(self):
        seen = set()
        for one, other in pairs(3, 400, 4, 20):
            missing = members(sums_below(1100, one) & ~sums_below(1100, other))
            seen.add(bool(missing))
            with self.subTest(one=one, other=other):
                self.assertEqual(Numbers(one).within(Numbers(other)), missing[0] if missing else None)
        self.assertEqual(seen, {True, False})

    def test_not_numbers(self):
        for value in NO_SETS:
            for some in (Numbers(), Numbers((2, 3))):
                self.refuse(NotNumbers, "given", value, lambda: some.within(value), lambda: some.within(other=value))


if __name__ == "__main__":
    unittest.main()
