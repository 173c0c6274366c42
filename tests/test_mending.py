import unittest
from itertools import combinations

from evenboxes.errors import InvalidChanges, InvalidNumber
from evenboxes.mending import least_changes
from evenboxes.orders import Order
from tests.drawn import Draws, drawn_order
from tests.judge import reaches
from tests.orders_told import ANSWERED, EGGS, FRUIT, FUSSY, NOT_TOLD, order
from tests.refusals import RefusalCase
from tests.samples import BIG, Liar, names_refused, not_in_range, values_of_all_kinds

TWO = order("measure weight, price", "kind plum 3: 2, 1", "kind pear 2: 5, 4", "person ann 1 without plum, pear",
            "person bob 2 without plum")
SAME_NAMES = order("measure ann", "kind ann 1: 1", "kind bob 1: 1", "person ann 1 without bob", "person bob 1")
GOOD = ("count", "plum", 2)


def changed(some, chosen):
    """The order behind these changes, None if two of them tell the same."""
    told = [change[:2] for change in chosen if change[0] != "takes"]
    if len(set(told)) < len(told):
        return None
    counts = {kind[0]: kind[1] for kind in some.kinds}
    worths = {kind[0]: kind[2] for kind in some.kinds}
    shares = {person[0]: person[1] for person in some.people}
    refused = {person[0]: list(person[2]) for person in some.people}
    for word, name, value in chosen:
        if word == "takes":
            if value in refused[name]:
                refused[name].remove(value)
        else:
            {"count": counts, "worths": worths, "share": shares}[word][name] = value
    return Order(
        some.measures,
        tuple((name, counts[name], worths[name]) for name, _, _ in some.kinds),
        tuple((name, shares[name], tuple(refused[name])) for name, _, _ in some.people),
    )


def least_of_all(some, boxes, changes):
    """What should be returned, found by trying all sets."""
    good = []
    for many in range(len(changes) + 1):
        for places in combinations(range(len(changes)), many):
            behind = changed(some, [changes[at] for at in places])
            if behind is not None and (boxes == 0 or reaches(behind, boxes)):
                good.append(places)
    return tuple(places for places in good if not any(set(part) < set(places) for part in good))


def drawn_change(draws, some):
    kind = draws.one_of(some.kinds)[0]
    person = draws.one_of(some.people)[0]
    return draws.one_of((
        ("count", kind, draws.among(1, 3)),
        ("worths", kind, tuple(draws.among(0, 6) for _ in some.measures)),
        ("share", person, draws.among(1, 3)),
        ("takes", person, kind),
    ))


class LeastChangesTest(RefusalCase):
    def test_nothing_need_be_changed(self):
        for changes in ((), (GOOD,), (("takes", "bob", "plum"), GOOD, GOOD)):
            self.assertEqual(least_changes(FRUIT, 2, changes), ((),))
            self.assertEqual(least_changes(FUSSY, 0, changes), ((),))
        for some, _ in ANSWERED + NOT_TOLD:
            self.assertEqual(least_changes(some, 0, ()), ((),))

    def test_nothing_helps(self):
        self.assertEqual(least_changes(FRUIT, 1, ()), ())
        self.assertEqual(least_changes(FUSSY, 1, (("share", "ann", 2),)), ())
        self.assertEqual(least_changes(EGGS, 3, (("count", "egg", 1), ("worths", "egg", (6,)))), ())

    def test_by_hand(self):
        # An order for one box: two plums, each weighs 3, and one pear that weighs 4.
        changes = (
            ("worths", "pear", (0,)), ("worths", "pear", (6,)), ("count", "pear", 2), ("count", "plum", 1),
            ("share", "ann", 3), ("worths", "plum", (2,)),
        )
        self.assertEqual(least_changes(FRUIT, 1, changes), ((0,), (1,), (2,), (5,)))
        self.assertEqual(least_changes(order=FRUIT, boxes=1, changes=changes), ((0,), (1,), (2,), (5,)))
        self.assertEqual(least_changes(changes=changes[3:5], boxes=1, order=FRUIT), ())
        # A plum of the weight 4 against the pear of the same weight: two changes are needed.
        both = (("count", "plum", 1), ("share", "bob", 1), ("worths", "plum", (4,)))
        self.assertEqual(least_changes(FRUIT, 1, both), ((0, 2),))

    def test_fewer_changes_come_first_then_the_lower_places(self):
        changes = (
            ("count", "plum", 1), ("worths", "plum", (4,)), ("count", "pear", 2), ("count", "plum", 1),
            ("worths", "plum", (4,)),
        )
        self.assertEqual(least_changes(FRUIT, 1, changes), ((2,), (0, 1), (0, 4), (1, 3), (3, 4)))

    def test_one_takes_what_was_refused(self):
        takes = ("takes", "bob", "plum")
        self.assertEqual(least_changes(FUSSY, 2, (takes,)), ((0,),))
        self.assertEqual(least_changes(FUSSY, 2, (GOOD, takes, takes)), ((1,), (2,)))
        # What is not refused may be told, too, and changes nothing.
        self.assertEqual(least_changes(FUSSY, 2, (("takes", "ann", "plum"), ("takes", "bob", "pear"))), ())
        self.assertEqual(least_changes(FRUIT, 2, (("takes", "ann", "plum"),)), ((),))

    def test_one_may_take_several_kinds_at_once(self):
        some = order("measure x", "kind a 1: 2", "kind b 1: 3", "person p 1 without a, b", "person q 1")
        changes = (("takes", "p", "b"), ("takes", "p", "a"), ("worths", "b", (2,)))
        self.assertEqual(least_changes(some, 1, changes), ((0, 2), (1, 2)))
        self.assertEqual(least_changes(some, 2, changes[:2]), ((0, 1),))
        self.assertEqual(least_changes(some, 6, changes[:2]), ((0,),))

    def test_the_same_twice_is_no_set(self):
        # Of the two counts just one can be made, even if they are the same.
        self.assertEqual(least_changes(EGGS, 1, (("count", "egg", 2), ("count", "egg", 2))), ((0,), (1,)))
        some = order("measure x", "kind a 1: 1", "kind b 1: 2", "person p 1 without b", "person q 1")
        wanted = (("count", "a", 2), ("count", "a", 3), ("worths", "a", (2,)), ("worths", "a", (4,)))
        self.assertEqual(least_changes(some, 1, wanted), least_of_all(some, 1, wanted))
        twice = (("share", "bob", 2), ("share", "bob", 3), ("share", "ann", 3))
        self.assertEqual(least_changes(EGGS, 1, twice), ((0,),))
        self.assertEqual(least_changes(EGGS, 4, twice[1:]), ((),))

    def test_a_kind_and_a_person_with_the_same_name(self):
        changes = (("count", "ann", 2), ("share", "ann", 2), ("takes", "ann", "bob"), ("worths", "bob", (3,)))
        for boxes in range(7):
            self.assertEqual(least_changes(SAME_NAMES, boxes, changes), least_of_all(SAME_NAMES, boxes, changes))

    def test_numbers_that_possible_does_not_tell(self):
        # 12 boxes at most are asked for: it is told for each order, whatever is true of greater numbers.
        for some, _ in NOT_TOLD:
            changes = (("count", "a", 1), ("worths", "a", (1,) * len(some.measures)), ("share", some.people[0][0], 3))
            for boxes in (0, 1, 7, 12):
                self.assertEqual(least_changes(some, boxes, changes), least_of_all(some, boxes, changes))

    def test_all_sets_of_drawn_changes(self):
        draws = Draws(105)
        sizes = set()
        for at in range(600):
            people, measures = ((2, 1), (2, 2), (3, 1))[at % 3]
            some = drawn_order(draws, draws.among(1, 4), people, measures, refusing=draws.among(2, 4))
            changes = tuple(drawn_change(draws, some) for _ in range(draws.below(7)))
            boxes = draws.below(13)
            expected = least_of_all(some, boxes, changes)
            sizes |= {len(places) for places in expected}
            with self.subTest(order=str(some), boxes=boxes, changes=changes):
                self.assertEqual(least_changes(some, boxes, changes), expected)
        self.assertLessEqual({0, 1, 2, 3, 4}, sizes)

    def test_nothing_that_is_passed_is_changed(self):
        changes = (("takes", "bob", "plum"), GOOD)
        before = str(FUSSY)
        self.assertEqual(least_changes(FUSSY, 2, changes), least_changes(FUSSY, 2, changes))
        self.assertEqual((changes, str(FUSSY)), ((("takes", "bob", "plum"), GOOD), before))


class RefusedChangesTest(RefusalCase):
    def refuse_changes(self, index, some, changes):
        self.refuse(
            InvalidChanges, "index", index,
            lambda: least_changes(some, 1, changes), lambda: least_changes(changes=changes, order=some, boxes=0),
        )

    def test_wrong_numbers(self):
        for value in not_in_range(0, 12):
            self.refuse(
                InvalidNumber, "given", value,
                lambda: least_changes(FRUIT, value, ()), lambda: least_changes(changes=(), boxes=value, order=FRUIT),
                lambda: least_changes(FRUIT, value, None), lambda: least_changes(FRUIT, value, (1,)),
            )
        for boxes in (0, 1, 12):
            self.assertIsInstance(least_changes(FRUIT, boxes, ()), tuple)

    def test_no_tuple(self):
        for value in values_of_all_kinds() + [0, 1, "count", [GOOD], {0: GOOD}, Liar()]:
            if value != () or isinstance(value, Liar):
                self.refuse_changes(None, FRUIT, value)

    def test_the_first_wrong_change(self):
        for wrong in values_of_all_kinds() + [0, "count", GOOD[:2], GOOD + (1,), list(GOOD), [GOOD]]:
            self.refuse_changes(0, FRUIT, (wrong,))
            self.refuse_changes(1, FRUIT, (GOOD, wrong, wrong))
            self.refuse_changes(5, FRUIT, (GOOD,) * 5 + (wrong,))
            self.refuse_changes(5, FRUIT, (GOOD,) * 5 + (wrong, GOOD, wrong))

    def test_six_are_enough(self):
        self.assertEqual(least_changes(EGGS, 1, (("count", "egg", 2),) * 6), tuple((at,) for at in range(6)))
        for rest in ((GOOD,), (GOOD, GOOD), (None,), (GOOD, None)):
            self.refuse_changes(6, FRUIT, (GOOD,) * 6 + rest)
        self.refuse_changes(2, FRUIT, (GOOD, GOOD, None) + (GOOD,) * 5)

    def test_wrong_words(self):
        for word in names_refused() + ["counts", "Count", "take", "worth", "possible", "kind", "shares"]:
            self.refuse_changes(0, TWO, ((word, "plum", 1),))
            self.refuse_changes(0, TWO, ((word, "ann", "plum"),))
            self.refuse_changes(1, SAME_NAMES, (("count", "ann", 1), (word, "ann", 1)))

    def test_wrong_names(self):
        for name in names_refused() + ["ann", "weight", "fig", "plums", "lum"]:
            self.refuse_changes(0, TWO, (("count", name, 1),))
            self.refuse_changes(0, TWO, (("worths", name, (1, 1)),))
            self.refuse_changes(0, TWO, (("takes", "ann", name),))
        for name in names_refused() + ["plum", "price", "cid", "anna", "an"]:
            self.refuse_changes(0, TWO, (("share", name, 1),))
            self.refuse_changes(0, TWO, (("takes", name, "plum"),))

    def test_wrong_values(self):
        for value in not_in_range(1, 3):
            self.refuse_changes(0, TWO, (("count", "plum", value),))
            self.refuse_changes(0, TWO, (("share", "ann", value),))
        for value in not_in_range(0, 6):
            self.refuse_changes(0, TWO, (("worths", "plum", (1, value)),))
            self.refuse_changes(0, TWO, (("worths", "plum", (value, 1)),))
            self.refuse_changes(0, FRUIT, (("worths", "plum", (value,)),))
        for value in values_of_all_kinds() + [1, (1,), (1, 1, 1), [1, 1], "11", BIG]:
            self.refuse_changes(0, TWO, (("worths", "plum", value),))
        self.refuse_changes(0, FRUIT, (("worths", "plum", (1, 1)),))

    def test_the_greatest_and_least_values(self):
        for some, wide in ((TWO, 2), (FRUIT, 1)):
            changes = (
                ("count", "plum", 1), ("count", "pear", 3), ("worths", "plum", (0,) * wide),
                ("worths", "pear", (6,) * wide), ("share", "ann", 1), ("share", "bob", 3),
            )
            for boxes in (0, 3, 12):
                self.assertEqual(least_changes(some, boxes, changes), least_of_all(some, boxes, changes))


if __name__ == "__main__":
    unittest.main()
