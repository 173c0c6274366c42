"""What the checker accepts, by hand, for each of the claims."""

import unittest

from evenboxes.checker import accepts
from evenboxes.sharing import sharing
from tests.judge import spread
from tests.orders_told import EGGS, FRUIT, FUSSY, LONG_TABLES, NOT_TOLD, order
from tests.samples import BIG, Liar, names_refused, not_in_range, values_of_all_kinds

E30 = 10 ** 30
LISTS = (((0,), ((0,), (0,))), ((((0,), ((1,), (0,))), 1),))
NONE = ((0,), ((0,), (0,)))
# Of the kind a, which both take, q never gets one: q has to take all of b, and that is what is due to q.
KEPT = order("measure x", "kind a 1: 2", "kind b 1: 2", "person p 1 without b", "person q 1")
TWO = order("measure x, y", "kind a 1: 2, 1", "kind b 2: 1, 3", "person p 1", "person q 2")
# By one's share all possible numbers are multiples of 6, by another's of 3, by the third's of 2.
SIXES = order("measure n", "kind egg 1: 1", "person a 1", "person b 2", "person c 3")


class CheckerCase(unittest.TestCase):
    def accept(self, claim, certificate):
        self.check(claim, certificate, True)

    def reject(self, claim, certificate):
        self.check(claim, certificate, False)

    def check(self, claim, certificate, expected):
        self.assertIs(accepts(claim, certificate), expected, repr((claim, certificate))[:400])
        self.assertIs(accepts(certificate=certificate, claim=claim), expected)


class CheckerTest(CheckerCase):
    def test_of_the_document(self):
        self.accept(("multiples", str(EGGS), 2), LISTS)
        self.reject(("multiples", str(EGGS), 4), LISTS)
        self.accept(("nothing", str(FUSSY)), ((0, 4), ((0,), (-1,))))
        self.reject(("nothing", str(FRUIT)), ((0, 4), ((0,), (-1,))))

    def test_possible(self):
        claim = ("possible", str(FRUIT), 2)
        self.accept(claim, ((2, 1), (2, 1)))
        self.reject(claim, ((2, 1), (1, 2)))
        self.reject(claim, ((3, 0), (1, 2)))
        self.reject(("possible", str(FRUIT), 3), ((2, 1), (2, 1)))
        self.accept(("possible", str(FRUIT), 0), ((0, 0), (0, 0)))
        self.accept(("possible", str(NOT_TOLD[0][0]), 0), ((0,) * 3,) * 2)
        for boxes in (E30, E30 + 1):
            self.accept(("possible", str(FRUIT), boxes), sharing(FRUIT, boxes))
        many = E30 // 2
        self.accept(("possible", str(FRUIT), E30), ((2 * many, many), (2 * many, many)))
        self.reject(("possible", str(FRUIT), E30), ((2 * many, many), (2 * many - 1, many + 1)))
        self.reject(claim, ((2, True), (2, 1)))
        self.reject(claim, ([2, 1], (2, 1)))
        self.reject(claim, ((5, 1), (-1, 1)))
        # What is refused is not given.
        self.reject(("possible", str(FUSSY), 2), ((2, 1), (2, 1)))
        for value in values_of_all_kinds() + [((2, 1),), ((2, 1), (2, 1), (0, 0)), ((2,), (2,)), Liar()]:
            self.reject(claim, value)

    def test_nothing(self):
        claim = ("nothing", str(FUSSY))
        self.accept(claim, ((0, 4), ((0,), (-1,))))
        self.accept(claim, ((0, 4 * E30), ((0,), (-E30,))))
        # The price of bob and the plum, which bob refuses, is below 0: it does not count.
        self.accept(claim, ((0, 8), ((0,), (-2,))))
        # Prices below 0: of bob and the pear, of ann and the pear, of ann and the plum.
        self.reject(claim, ((0, 3), ((0,), (-1,))))
        self.reject(claim, ((0, 4), ((-2,), (-1,))))
        self.reject(claim, ((-1, 4), ((0,), (-1,))))
        # A total from 0 on.
        self.reject(claim, ((0, 5), ((0,), (-1,))))
        self.reject(claim, ((0, 0), ((0,), (0,))))
        self.reject(claim, ((1, 4), ((0,), (-1,))))

    def test_nothing_with_the_total_just_below_nought(self):
        some = order("measure x", "kind a 1: 1", "kind b 1: 2", "person p 1", "person q 1 without a, b")
        self.accept(("nothing", str(some)), ((0, 0), ((0,), (-1,))))
        # The totals are -1, 0 and 1.
        self.accept(("nothing", str(some)), ((0, 1), ((0,), (-1,))))
        self.reject(("nothing", str(some)), ((1, 2), ((-1,), (-1,))))
        self.reject(("nothing", str(some)), ((1, 1), ((0,), (-1,))))

    def test_nothing_as_nobody_takes_a_kind(self):
        some = order("measure x", "kind a 1: 0", "kind b 1: 1", "person p 1 without a", "person q 1 without a")
        self.accept(("nothing", str(some)), ((-1, 0), ((0,), (0,))))
        self.reject(("nothing", str(some)), ((0, -1), ((0,), (0,))))

    def test_no_price_lists(self):
        good = ((0, 4), ((0,), (-1,)))
        for wrong in self.no_price_lists(good):
            self.reject(("nothing", str(FUSSY)), wrong)
            self.reject(("unused", str(FUSSY), "ann", "plum"), wrong)
        self.accept(("unused", str(FUSSY), "ann", "plum"), good)
        for wrong in self.no_price_lists(NONE):
            self.reject(("multiples", str(EGGS), 1), (wrong, ()))
            self.reject(("multiples", str(EGGS), 1), (NONE, ((wrong, 1),)))
        self.accept(("multiples", str(EGGS), 1), (NONE, ((NONE, 1),)))

    def no_price_lists(self, good):
        kinds, people = good
        found = values_of_all_kinds() + [Liar(), good[:1], good + ((),), list(good), (kinds, list(people))]
        found += [(list(kinds), people), (kinds, people[:1]), (kinds, people + ((0,),)), (kinds[:-1], people)]
        found += [(kinds + (0,), people), (kinds, (people[0], ())), (kinds, (people[0], (0, 0)))]
        found += [(kinds, (people[0], list(people[1]))), (people, kinds), (kinds, (0, 0)), (0, people)]
        for value in values_of_all_kinds() + ["0", (0,), [0]]:
            if not (isinstance(value, int) and not isinstance(value, bool)):
                found += [((value,) + kinds[1:], people), (kinds, ((value,), people[1])), (kinds, (people[0], (value,)))]
        return found

    def test_unused(self):
        claim = ("unused", str(KEPT), "q", "a")
        # The prices are 0 of p and a, 2 of q and a, 0 of q and b, and the total is 0.
        good = ((0, -2), ((0,), (1,)))
        self.accept(claim, good)
        self.accept(claim, ((0, -2 * BIG), ((0,), (BIG,))))
        for person, kind in (("p", "a"), ("q", "b")):
            self.reject(("unused", str(KEPT), person, kind), good)
        # All prices are 0, or one is below 0, or the total is above 0.
        self.reject(claim, ((0, 0), ((0,), (0,))))
        self.reject(claim, ((0, -3), ((0,), (1,))))
        self.reject(claim, ((-1, -2), ((0,), (1,))))
        self.reject(claim, ((0, -1), ((0,), (1,))))
        self.reject(claim, ((1, -2), ((0,), (1,))))

    def test_unused_as_nothing_is_possible(self):
        good = ((0, 4), ((0,), (-1,)))
        for person, kind in (("ann", "plum"), ("ann", "pear"), ("bob", "pear")):
            # The price of bob and the pear is 0, but the total is below 0.
            self.accept(("unused", str(FUSSY), person, kind), good)

    def test_anything_shows_that_what_is_refused_is_unused(self):
        for value in values_of_all_kinds() + [0, 1, ((),), ((0, 0), ((0,), (0,))), Liar()]:
            self.accept(("unused", str(FUSSY), "bob", "plum"), value)
            self.accept(("unused", str(KEPT), "p", "b"), value)

    def test_multiples(self):
        claim = ("multiples", str(EGGS), 2)
        first, lists = LISTS
        self.accept(("multiples", str(EGGS), 1), LISTS)
        self.accept(("multiples", str(EGGS), 1), (first, ()))
        self.reject(claim, (first, ()))
        self.reject(("multiples", str(EGGS), 3), LISTS)
        self.accept(claim, (first, lists * 3))
        self.accept(claim, (first, (((NONE), 7),) + lists))
        # All prices are multiples of what stands behind them.
        self.accept(claim, (first, ((((0,), ((5,), (0,))), 5),)))
        self.accept(claim, (first, ((((4,), ((1,), (6,))), 5),)))
        self.reject(claim, (first, ((((4,), ((1,), (-9,))), 5),)))
        self.reject(claim, (first, ((((0,), ((5,), (1,))), 5),)))
        self.reject(claim, (first, ((((1,), ((0,), (0,))), 2),)))
        self.reject(claim, (first, lists + ((((1,), ((0,), (0,))), 2),)))
        # A first list whose total is not 0, or with a price below 0.
        self.reject(claim, (((1,), ((0,), (0,))), lists))
        self.accept(claim, (((1,), ((-1,), (-1,))), lists))
        self.reject(claim, (((0,), ((1,), (-1,))), lists))

    def test_multiples_of_several_numbers(self):
        first = ((0,), ((0,), (0,), (0,)))
        lists = ((((0,), ((1,), (0,), (0,))), 1), (((0,), ((0,), (1,), (0,))), 1), (((0,), ((0,), (0,), (1,))), 1))
        # They show 6, 3 and 2.
        for number in range(1, 13):
            claim = ("multiples", str(SIXES), number)
            self.assertIs(accepts(claim, (first, lists)), 6 % number == 0)
            self.assertIs(accepts(claim, (first, lists[1:])), 6 % number == 0)
            self.assertIs(accepts(claim, (first, lists[1:2])), 3 % number == 0)
            self.assertIs(accepts(claim, (first, lists[2:])), 2 % number == 0)

    def test_multiples_with_what_the_first_list_leaves_out(self):
        # q never gets an a, whose price 1 in the second list is no multiple of 2.
        some = order("measure x", "kind a 1: 2", "kind b 1: 2", "kind c 1: 0", "person p 1 without b", "person q 1")
        claim = ("multiples", str(some), 1)
        second = ((((0, 0, 2), ((0,), (1,))), 2),)
        self.accept(claim, (((0, -2, 0), ((0,), (1,))), second))
        odd = (((2, -1, 0), ((-1,), (1,))), 2)
        self.reject(claim, (((0, 0, 0), ((0,), (0,))), (odd,)))
        uneven = (((-1, 0, 0), ((0,), (0,))), 1)
        self.accept(claim, (((0, 0, 0), ((0,), (0,))), (uneven,)))

    def test_multiples_of_great_numbers(self):
        claim = ("multiples", str(EGGS), 2)
        great = 10 ** 59 + 1
        self.accept(claim, (NONE, ((((0,), ((great,), (0,))), great),)))
        self.accept(claim, (NONE, ((((0,), ((10 ** 59,), (0,))), 10 ** 59),)))
        self.reject(("multiples", str(EGGS), 2 * great), (NONE, ((((0,), ((great,), (0,))), great),)))
        many = tuple((((0,), ((10 ** 58 + at,), (0,))), 10 ** 58 + at) for at in range(60))
        self.accept(claim, (NONE, many))
        self.reject(("multiples", str(EGGS), 10 ** 59), (NONE, many))

    def test_no_multiples(self):
        for value in values_of_all_kinds() + [0, -1, -2, "2", (2,)]:
            self.reject(("multiples", str(EGGS), value), LISTS)
        first, lists = LISTS
        claim = ("multiples", str(EGGS), 1)
        for value in values_of_all_kinds() + [(first,), LISTS + ((),), list(LISTS), (first, list(lists)), lists]:
            self.reject(claim, value)
        for value in values_of_all_kinds() + [0, lists[0][:1], lists[0] + (1,), list(lists[0])]:
            self.reject(claim, (first, (value,)))
            self.reject(claim, (first, lists + (value,)))
        for value in values_of_all_kinds() + [0, -1, -BIG, "1", (1,)]:
            self.reject(claim, (first, ((NONE, value),)))
        for value in (None, (), [], Liar(), "x", 7):
            if value != () or isinstance(value, Liar):
                self.reject(claim, (first, value))

    def test_not(self):
        claim = ("not", str(FRUIT), 1)
        self.accept(claim, (((3, 3),), ()))
        for wrong in (
            (), ((), ()), (((3, 3),),), (((3, 3),), (), ()), (((3, 3), (3, 3)), ()), (((3, 4),), ()), ((), ((3, 3),)),
            (((3, 3),), ((5, 5),)), [((3, 3),), ()], ([(3, 3)], ()), (([3, 3],), ()), (((3, 3),), []), ((3, 3), ()),
            (((3, 3, 0),), ()), (((3,),), ()), (((3, "3"),), ()), ((("3", "3"),), ()), ((None,), ()), (((3, None),), ()),
            ((Liar(),), ()), (((3, Liar()),), ()), (((3, 3),), Liar()), Liar(), (Liar(), ()), (((b"3", 3),), ()),
        ):
            self.reject(claim, wrong)
        for value in values_of_all_kinds():
            self.reject(claim, value)
            self.reject(claim, (value, ()))
            self.reject(claim, ((value,), ()))
            self.reject(claim, (((3, value),), ()))

    def test_not_with_true_and_false_in_the_place_of_integers(self):
        some = order("measure x", "kind a 1: 1", "kind b 3: 1", "person p 1", "person q 3 without b")
        self.accept(("not", str(some), 1), (((0, 1), (1, 0)), ()))
        for rows in (((False, 1), (1, 0)), ((0, True), (1, 0)), ((0, 1), (True, False))):
            self.reject(("not", str(some), 1), (rows, ()))

    def test_not_though_possible(self):
        for some in (FRUIT, EGGS, KEPT, TWO):
            for boxes in range(7):
                rows = spread(some, boxes)
                if rows is not None:
                    whole = tuple(tuple(sorted(part)) for part in rows)
                    due = tuple(top for row in some.due(boxes) for top, _ in row)
                    self.assertIs(accepts(("not", str(some), boxes), whole), due not in whole[-1])
                    self.reject(("not", str(some), boxes), ())
                else:
                    self.accept(("not", str(some), boxes), ())

    def test_not_whole(self):
        self.accept(("not", str(EGGS), 1), ())
        self.accept(("not", str(EGGS), 11), ())
        self.reject(("not", str(EGGS), 2), ())
        for value in values_of_all_kinds() + [((),), (((3, 3),), ()), [], Liar(), (0,)]:
            if value != () or isinstance(value, Liar):
                self.reject(("not", str(EGGS), 1), value)

    def test_not_more_than_twelve(self):
        for boxes in (13, 15, E30 + 1):
            self.reject(("not", str(EGGS), boxes), ())
        for value in not_in_range(0, 12):
            self.reject(("not", str(EGGS), value), ())

    def test_not_with_more_than_two_thousand_tuples(self):
        for some, boxes, size in LONG_TABLES:
            whole = tuple(tuple(sorted(part)) for part in spread(some, boxes))
            self.assertIs(accepts(("not", str(some), boxes), whole), size <= 2000)
            self.assertIs(accepts(("not", str(some), boxes), whole[:-2] + (whole[-2][:-1], whole[-1])), False)
            self.assertIs(accepts(("not", str(some), boxes), ()), False)


class NoClaimsTest(CheckerCase):
    GOOD = (
        (("possible", str(FRUIT), 2), ((2, 1), (2, 1))),
        (("nothing", str(FUSSY)), ((0, 4), ((0,), (-1,)))),
        (("unused", str(FUSSY), "ann", "plum"), ((0, 4), ((0,), (-1,)))),
        (("unused", str(FUSSY), "bob", "plum"), None),
        (("multiples", str(EGGS), 2), LISTS),
        (("not", str(FRUIT), 1), (((3, 3),), ())),
        (("not", str(EGGS), 1), ()),
    )

    def test_good_ones(self):
        for claim, certificate in self.GOOD:
            self.accept(claim, certificate)

    def test_other_values(self):
        for value in values_of_all_kinds() + [0, 1, (), ((),), ("possible",), Liar(), (Liar(), Liar(), Liar())]:
            for _, certificate in self.GOOD:
                self.reject(value, certificate)
                self.reject((value,), certificate)
            for other in values_of_all_kinds() + [Liar()]:
                self.reject(value, other)

    def test_more_or_fewer_elements(self):
        for claim, certificate in self.GOOD:
            for many in range(len(claim)):
                if claim[0] != "nothing" or many != 2:
                    self.reject(claim[:many], certificate)
            for more in (None, 1, "ann", "plum", (), Liar()):
                self.reject(claim + (more,), certificate)
            self.reject(list(claim), certificate)
            self.reject((claim,), certificate)

    def test_other_words(self):
        for claim, certificate in self.GOOD:
            for word in names_refused() + ["Possible", "possible ", "nothin", "never", "from", "within", "multiple"]:
                self.reject((word,) + claim[1:], certificate)
        self.reject(("nothing", str(FRUIT), 2), ((2, 1), (2, 1)))
        self.reject(("possible", str(EGGS), 1), ())
        self.reject(("multiples", str(EGGS), 1), ())

    def test_other_texts(self):
        for claim, certificate in self.GOOD:
            text = claim[1]
            for wrong in values_of_all_kinds() + [
                FRUIT, FUSSY, EGGS, text + "\n", "\n" + text, text.upper(), text + " ", text.replace("1", "0"),
                text.replace(": ", ":"), text.encode(), (text,), [text], text[:-1], text.replace("ann", "bob"), "x" * 4000,
            ]:
                self.reject((claim[0], wrong) + claim[2:], certificate)

    def test_no_numbers(self):
        for value in values_of_all_kinds() + ["2", (2,), [2], -2, "two"]:
            self.reject(("possible", str(FRUIT), value), ((2, 1), (2, 1)))
            self.reject(("multiples", str(EGGS), value), LISTS)
            self.reject(("not", str(FRUIT), value), (((3, 3),), ()))

    def test_true_and_false_in_the_place_of_numbers(self):
        some = order("measure n", "kind egg 2: 1", "person a 1", "person b 1")
        self.accept(("possible", str(some), 1), ((1,), (1,)))
        self.reject(("possible", str(some), True), ((1,), (1,)))
        self.reject(("possible", str(some), 1), ((True,), (1,)))
        self.reject(("possible", str(some), False), ((0,), (0,)))
        self.reject(("multiples", str(some), True), (NONE, ()))
        self.reject(("multiples", str(some), 1), (NONE, ((NONE, True),)))
        self.reject(("not", str(EGGS), True), ())

    def test_unknown_names(self):
        for name in names_refused() + ["none", "weight", "ann", "pea", ("plum",), Liar()]:
            for certificate in (((0, 4), ((0,), (-1,))), None):
                self.reject(("unused", str(FUSSY), "bob", name), certificate)
                if name != "ann" or isinstance(name, Liar):
                    self.reject(("unused", str(FUSSY), name, "plum"), certificate)
        self.reject(("unused", str(FUSSY), "plum", "bob"), None)


if __name__ == "__main__":
    unittest.main()
