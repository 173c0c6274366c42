import unittest

from evenboxes.certificates import (
    certify_multiples, certify_not, certify_nothing, certify_possible, certify_unused,
)
from evenboxes.checker import accepts
from evenboxes.errors import InvalidNumber, NotAnOrder, TooMany, UnknownName
from evenboxes.orders import Order
from evenboxes.sharing import possible, sharing, table
from tests.drawn import Draws, drawn_order, large_orders, small_orders
from tests.judge import divisor_of, is_shared, reaches, spread, told_up_to_twelve, used_if_cut, whole_due
from tests.judge_claims import is_certificate, is_true
from tests.orders_told import ANSWERED, EGGS, FRUIT, FUSSY, LONG_TABLES, NOT_TOLD, order
from tests.refusals import RefusalCase
from tests.samples import Liar, fruit, names_refused, not_in_range, values_of_all_kinds

E30 = 10 ** 30
BOXES = (*range(15), 29, E30, E30 + 1, E30 + 2, E30 + 7)


class CertificateCase(RefusalCase):
    def check(self, some, claim, certificate):
        """The claim about this order is true, and the certificate is one, which is accepted."""
        word, text, *told = claim
        self.assertIs(type(claim), tuple)
        self.assertEqual(text, str(some))
        self.assertIs(type(text), str)
        self.assertTrue(is_certificate(some, certificate, word, *told), (claim, certificate))
        self.assertIs(accepts(claim, certificate), True)

    def answer(self, some, given, *claim):
        """What a function gave is a pair for just this claim, which is true."""
        self.assertIs(type(given), tuple)
        self.assertEqual(len(given), 2)
        self.assertEqual(given[0], (claim[0], str(some), *claim[1:]))
        for told, passed in zip(given[0][2:], claim[1:]):
            self.assertIs(type(told), type(passed))
        self.check(some, *given)


class CertificatesTest(CertificateCase):
    def test_of_the_document(self):
        self.assertEqual(certify_multiples(EGGS)[0][2], 2)
        self.assertIsNone(certify_possible(EGGS, 1))
        self.assertEqual(certify_not(FRUIT, 1), (("not", str(FRUIT), 1), (((3, 3),), ())))
        self.assertIsNone(certify_nothing(FRUIT))

    def test_possible(self):
        for some, generators in ANSWERED:
            for boxes in BOXES:
                given = certify_possible(some, boxes)
                with self.subTest(order=str(some), boxes=boxes):
                    if boxes in possible(some):
                        self.answer(some, given, "possible", boxes)
                        self.assertTrue(is_shared(some, boxes, given[1]))
                        self.assertEqual(given[1], sharing(some, boxes))
                    else:
                        self.assertIsNone(given)
        self.answer(FRUIT, certify_possible(boxes=2, order=FRUIT), "possible", 2)

    def test_nothing(self):
        for some, generators in ANSWERED:
            with self.subTest(order=str(some)):
                if generators:
                    self.assertIsNone(certify_nothing(some))
                else:
                    self.answer(some, certify_nothing(some), "nothing")
                    self.answer(some, certify_nothing(order=some), "nothing")
        for some, _ in NOT_TOLD:
            self.assertIsNone(certify_nothing(some))

    def test_unused(self):
        for some in [some for some, _ in ANSWERED + NOT_TOLD]:
            used = used_if_cut(some)
            for p, person in enumerate(some.people):
                for k, kind in enumerate(some.kinds):
                    given = certify_unused(some, person[0], kind[0])
                    with self.subTest(order=str(some), person=person[0], kind=kind[0]):
                        if (p, k) in used:
                            self.assertIsNone(given)
                        else:
                            self.answer(some, given, "unused", person[0], kind[0])
        self.answer(FUSSY, certify_unused(kind="plum", person="bob", order=FUSSY), "unused", "bob", "plum")

    def test_unused_though_taken_by_hand(self):
        # Of x and y as much is due to both: q has to take all of b, and for that p all of a but for one.
        some = order("measure x", "kind a 1: 2", "kind b 1: 2", "person p 1 without b", "person q 1")
        self.answer(some, certify_unused(some, "q", "a"), "unused", "q", "a")
        self.assertIsNone(certify_unused(some, "q", "b"))
        self.assertIsNone(certify_unused(some, "p", "a"))
        self.assertEqual(certify_multiples(some)[0][2], 1)

    def test_multiples(self):
        for some, generators in ANSWERED:
            with self.subTest(order=str(some)):
                if generators:
                    divisor = divisor_of(generators)
                    given = certify_multiples(some)
                    self.answer(some, given, "multiples", divisor)
                    self.answer(some, certify_multiples(order=some), "multiples", divisor)
                    for number in range(1, 40):
                        self.assertIs(accepts(("multiples", str(some), number), given[1]), divisor % number == 0)
                else:
                    self.assertIsNone(certify_multiples(some))

    def test_not(self):
        for some in [some for some, _ in ANSWERED + NOT_TOLD]:
            for boxes in range(13):
                with self.subTest(order=str(some), boxes=boxes):
                    self.check_not(some, boxes)
        self.answer(FRUIT, certify_not(boxes=1, order=FRUIT), "not", 1)

    def check_not(self, some, boxes):
        if boxes == 0 or reaches(some, boxes):
            self.assertIsNone(certify_not(some, boxes))
        elif whole_due(some, boxes) is None:
            self.assertEqual(certify_not(some, boxes)[1], ())
            self.answer(some, certify_not(some, boxes), "not", boxes)
        elif sum(map(len, spread(some, boxes))) <= 2000:
            self.answer(some, certify_not(some, boxes), "not", boxes)
            self.assertEqual(certify_not(some, boxes)[1], table(some, boxes))
        else:
            self.refuse(TooMany, "limit", 2000, lambda: certify_not(some, boxes))

    def test_too_many_tuples(self):
        for some, boxes, size in LONG_TABLES:
            self.assertEqual(sum(map(len, spread(some, boxes))), size)
            self.assertFalse(reaches(some, boxes))
            if size > 2000:
                self.refuse(
                    TooMany, "limit", 2000,
                    lambda: certify_not(some, boxes), lambda: certify_not(boxes=boxes, order=some),
                )
            else:
                self.answer(some, certify_not(some, boxes), "not", boxes)

    def test_no_table_is_needed_for_what_is_possible_or_not_whole(self):
        seen = set()
        for some, _, _ in LONG_TABLES + tuple((some, 0, 0) for some in large_orders(20, 124)):
            for boxes in range(10, 13):
                if whole_due(some, boxes) is None:
                    seen.add("not whole")
                    self.assertEqual(certify_not(some, boxes), (("not", str(some), boxes), ()))
                elif reaches(some, boxes):
                    seen.add("possible")
                    self.assertIsNone(certify_not(some, boxes))
        self.assertEqual(len(seen), 2)

    def test_too_many_boxes(self):
        for some, _ in NOT_TOLD:
            self.refuse(
                TooMany, "limit", 12,
                lambda: certify_multiples(some), lambda: certify_multiples(order=some),
                lambda: certify_possible(some, 0), lambda: certify_possible(some, 1),
                lambda: certify_possible(some, 12), lambda: certify_possible(boxes=E30, order=some),
            )

    def test_drawn_orders(self):
        words = {}
        draws = Draws(121)
        drawn = [
            drawn_order(draws, draws.among(1, 4), *((2, 1), (2, 2), (3, 1))[at % 3], refusing=draws.among(2, 9))
            for at in range(150)
        ]
        for some in small_orders(90, 122) + large_orders(60, 123) + drawn:
            with self.subTest(order=str(some)):
                for given in self.all_of(some):
                    self.check(some, *given)
                    word, _, *told = given[0]
                    if told[:1] != [E30]:
                        self.assertTrue(is_true(some, word, *told))
                    words[word] = words.get(word, 0) + 1
        self.assertEqual(len(words), 5)
        self.assertGreater(min(words.values()), 50)

    def all_of(self, some):
        """What certificates give for this order, and whether they give it just if the claim is true."""
        used = used_if_cut(some)
        given = [certify_nothing(some)]
        self.assertIs(given[0] is None, used != ())
        for p, person in enumerate(some.people):
            for k, kind in enumerate(some.kinds):
                given.append(certify_unused(some, person[0], kind[0]))
                self.assertIs(given[-1] is None, (p, k) in used)
        numbers = told_up_to_twelve(some)
        if numbers is not None:
            given.append(certify_multiples(some))
            self.assertIs(given[-1] is None, used == ())
            for boxes in (0, 1, 2, 3, 7, 12):
                given.append(certify_possible(some, boxes))
                self.assertIs(given[-1] is None, boxes not in numbers)
            given.append(certify_possible(some, E30))
        for boxes in (0, 1, 2, 3):
            if whole_due(some, boxes) is None or sum(map(len, spread(some, boxes))) <= 2000:
                given.append(certify_not(some, boxes))
                self.assertIs(given[-1] is None, boxes == 0 or reaches(some, boxes))
        return [pair for pair in given if pair is not None]


class WrongArgumentsTest(RefusalCase):
    def test_no_order(self):
        for value in values_of_all_kinds() + [0, 1, str(FRUIT), fruit(), Liar()]:
            if not isinstance(value, Order):
                self.refuse(
                    NotAnOrder, "given", value,
                    lambda: certify_possible(value, 1), lambda: certify_possible(boxes=-1, order=value),
                    lambda: certify_nothing(value), lambda: certify_nothing(order=value),
                    lambda: certify_unused(value, "ann", "plum"),
                    lambda: certify_unused(kind=1, person=None, order=value),
                    lambda: certify_multiples(value), lambda: certify_multiples(order=value),
                    lambda: certify_not(value, 1), lambda: certify_not(boxes=13, order=value),
                )

    def test_no_number(self):
        for some in (FRUIT, FUSSY, NOT_TOLD[0][0], LONG_TABLES[2][0]):
            for value in values_of_all_kinds() + [-2, "1", (1,), [0]]:
                self.refuse(
                    InvalidNumber, "given", value,
                    lambda: certify_possible(some, value), lambda: certify_possible(boxes=value, order=some),
                )
            for value in not_in_range(0, 12):
                self.refuse(
                    InvalidNumber, "given", value,
                    lambda: certify_not(some, value), lambda: certify_not(boxes=value, order=some),
                )

    def test_unknown_names(self):
        for some in (FRUIT, FUSSY, NOT_TOLD[0][0]):
            person, kind = some.people[0][0], some.kinds[0][0]
            for name in names_refused() + ["none", "weight", kind, (person,), [person]]:
                self.refuse(
                    UnknownName, "given", name,
                    lambda: certify_unused(some, name, kind), lambda: certify_unused(some, name, None),
                    lambda: certify_unused(kind=7, person=name, order=some),
                )
            for name in names_refused() + ["none", "weight", person, (kind,), [kind]]:
                self.refuse(
                    UnknownName, "given", name,
                    lambda: certify_unused(some, person, name),
                    lambda: certify_unused(kind=name, person=person, order=some),
                )


if __name__ == "__main__":
    unittest.main()
