"""Certificates in which something is changed, and drawn price lists: what is accepted is a certificate, and true."""

import unittest
from itertools import product

from evenboxes.certificates import certify_multiples, certify_not, certify_nothing, certify_possible, certify_unused
from evenboxes.checker import accepts
from evenboxes.errors import TooMany
from tests.drawn import Draws, drawn_order, small_orders
from tests.judge_claims import is_certificate, is_true
from tests.orders_told import EGGS, FRUIT, FUSSY, order
from tests.samples import values_of_all_kinds


def changed(draws, value):
    """The value, with one integer in it greater or less, or one part left out or there twice, or a list."""
    if not isinstance(value, tuple):
        return value + draws.one_of((-3, -2, -1, 1, 2, 3, 6))
    drawn = draws.below(30)
    if drawn == 0:
        return list(value)
    if value == () or drawn == 1:
        return value + value[-1:] if value else (0,)
    at = draws.below(len(value))
    if drawn == 2:
        return value[:at] + value[at + 1:]
    return value[:at] + (changed(draws, value[at]),) + value[at + 1:]


def certified(some, draws):
    """Pairs of a claim and a certificate for this order."""
    given = [certify_nothing(some)]
    person = draws.one_of(some.people)[0]
    kind = draws.one_of(some.kinds)[0]
    given.append(certify_unused(some, person, kind))
    for make in (
        lambda: certify_multiples(some), lambda: certify_possible(some, draws.among(1, 6)),
        lambda: certify_not(some, draws.among(1, 4)),
    ):
        try:
            given.append(make())
        except TooMany:
            pass
    return [pair for pair in given if pair is not None]


ATOMS = values_of_all_kinds() + [0, 1, 2, 3, 12, 13, 10 ** 30, "ann", "plum", "egg", "possible", "not", str(EGGS), EGGS]


def drawn_value(draws, depth):
    """Any value, with parts of parts at most."""
    if depth == 0 or draws.below(2) == 0:
        return draws.one_of(ATOMS)
    parts = [drawn_value(draws, depth - 1) for _ in range(draws.below(4))]
    return draws.one_of((tuple, tuple, tuple, tuple, list))(parts)


class AnythingTest(unittest.TestCase):
    def test_false_for_drawn_values(self):
        draws = Draws(147)
        words = ("possible", "nothing", "unused", "multiples", "not")
        for _ in range(20000):
            claim = (draws.one_of(words), draws.one_of((str(EGGS), str(FRUIT), str(FUSSY))))
            claim += tuple(drawn_value(draws, 1) for _ in range(draws.below(3)))
            certificate = drawn_value(draws, 4)
            self.assertIs(accepts(drawn_value(draws, 2), certificate), False)
            # By chance it may be told right that an odd number of the eggs' boxes is not possible.
            odd = claim[:2] == ("not", str(EGGS)) and len(claim) == 3 and type(claim[2]) is int and claim[2] in (1, 3)
            good = odd and type(certificate) is tuple and certificate == ()
            self.assertIs(accepts(claim, certificate), good, repr((claim, certificate)))


class DrawnCertificatesTest(unittest.TestCase):
    def check(self, some, claim, certificate):
        word, _, *told = claim
        accepted = accepts(claim, certificate)
        self.assertIs(accepted, is_certificate(some, certificate, word, *told), repr((claim, certificate))[:600])
        if accepted:
            self.assertTrue(is_true(some, word, *told), repr(claim))
        return accepted

    def test_changed_certificates(self):
        draws = Draws(141)
        seen = {}
        for at in range(400):
            people, measures = ((2, 1), (2, 2), (3, 1))[at % 3]
            some = drawn_order(draws, draws.among(1, 4), people, measures, refusing=draws.among(2, 8))
            for claim, certificate in certified(some, draws):
                self.assertTrue(self.check(some, claim, certificate))
                for _ in range(6):
                    other = changed(draws, certificate)
                    key = (claim[0], self.check(some, claim, other))
                    seen[key] = seen.get(key, 0) + 1
        for word in ("nothing", "unused", "multiples", "possible", "not"):
            self.assertGreater(seen[word, False], 50)
        for word in ("nothing", "unused", "multiples"):
            self.assertGreater(seen[word, True], 20)

    def test_changed_numbers_in_claims(self):
        draws = Draws(142)
        for some in small_orders(150, 143):
            for claim, certificate in certified(some, draws):
                if isinstance(claim[-1], int):
                    for number in range(13):
                        if number or claim[0] != "multiples":
                            self.check(some, claim[:-1] + (number,), certificate)

    def test_small_price_lists(self):
        draws = Draws(144)
        accepted = {"nothing": 0, "unused": 0, "multiples": 0}
        for some in small_orders(60, 145):
            if len(some.kinds) > 2:
                continue
            for _ in range(80):
                prices = self.drawn_prices(draws, some)
                accepted["nothing"] += self.check(some, ("nothing", str(some)), prices)
                person, kind = draws.one_of(some.people)[0], draws.one_of(some.kinds)[0]
                accepted["unused"] += self.check(some, ("unused", str(some), person, kind), prices)
                lists = ((self.drawn_prices(draws, some), draws.among(1, 4)), (prices, draws.among(1, 6)))
                first = draws.one_of((prices, ((0,) * len(prices[0]), ((0,) * len(prices[1][0]),) * len(prices[1]))))
                for number in (1, 2, 3, 4):
                    accepted["multiples"] += self.check(some, ("multiples", str(some), number), (first, lists))
        self.assertGreater(min(accepted.values()), 30)

    def drawn_prices(self, draws, some):
        return (
            tuple(draws.among(-4, 8) for _ in some.kinds),
            tuple(tuple(draws.among(-2, 2) for _ in some.measures) for _ in some.people),
        )

    def test_all_small_price_lists_of_orders_of_one_kind(self):
        accepted = {"nothing": 0, "multiples": 0}
        for rows in (
            ("kind egg 3: 1", "person p 1", "person q 1"), ("kind egg 1: 4", "person p 1", "person q 3"),
            ("kind egg 1: 2", "person p 1 without egg", "person q 3"), ("kind egg 2: 3", "person p 1", "person q 2"),
            ("kind egg 1: 0", "person p 1 without egg", "person q 1 without egg"),
        ):
            some = order("measure x", *rows)
            for a, b, c in product(range(-6, 7), range(-3, 4), range(-3, 4)):
                prices = ((a,), ((b,), (c,)))
                accepted["nothing"] += self.check(some, ("nothing", str(some)), prices)
                for divisor in (1, 2, 3):
                    certificate = (((0,), ((0,), (0,))), ((prices, divisor),))
                    for number in (2, 3, 4, 6):
                        accepted["multiples"] += self.check(some, ("multiples", str(some), number), certificate)
        self.assertGreater(min(accepted.values()), 50)


if __name__ == "__main__":
    unittest.main()
