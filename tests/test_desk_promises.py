import unittest

from evenboxes.errors import Broken, InvalidIndex, InvalidPromise, TooMany, UnknownName
from tests.desks_told import desk_with, state
from tests.orders_told import ANSWERED, EGGS, FRUIT, FUSSY, NOT_TOLD, order
from tests.refusals import RefusalCase
from tests.samples import BIG, Liar, names_refused, values_of_all_kinds

ALL = order("measure n", "kind egg 2: 1", "person a 1", "person b 1")
THREES = order("measure n", "kind egg 1: 6", "person a 3", "person b 3", "person c 3")
FIVES = order("measure x", "kind a 2: 5", "kind b 1: 6", "person p 1", "person q 1")
MANY = NOT_TOLD[0][0]
OTHER_MANY = NOT_TOLD[-1][0]
E30 = 10 ** 30


def full_desk():
    """Orders with the generators 2, 3 (fruit); 2 (eggs); none (fussy); 1 (all); 3 (threes); 2, 5 (fives)."""
    return desk_with(("fruit", FRUIT), ("eggs", EGGS), ("fussy", FUSSY), ("all", ALL), ("threes", THREES),
                     ("fives", FIVES), ("many", MANY))


TRUE = (
    ("possible", "fruit", 0), ("possible", "fruit", 2), ("possible", "fruit", 3), ("possible", "fruit", E30 + 1),
    ("possible", "fussy", 0), ("possible", "eggs", E30), ("possible", "all", 1), ("possible", "fives", 9),
    ("from", "fruit", 2), ("from", "fruit", E30), ("from", "all", 0), ("from", "fives", 4),
    ("within", "eggs", "fruit"), ("within", "threes", "fruit"), ("within", "fussy", "eggs"), ("within", "eggs", "fives"),
    ("within", "fives", "fruit"), ("within", "fruit", "all"), ("within", "all", "all"), ("within", "fussy", "fussy"),
    ("never", "fruit", 1), ("never", "eggs", E30 + 1), ("never", "fussy", 1), ("never", "fussy", E30),
    ("never", "fives", 3), ("never", "threes", E30),
)

# Pairs of a promise and what is shown.
FALSE = (
    (("possible", "fruit", 1), None), (("possible", "eggs", E30 + 1), None), (("possible", "fussy", 1), None),
    (("possible", "fives", 3), None), (("possible", "threes", E30), None),
    (("from", "fruit", 0), 1), (("from", "fruit", 1), 1), (("from", "fives", 0), 1), (("from", "fives", 2), 3),
    (("from", "fives", 3), 3), (("from", "eggs", 0), 1), (("from", "eggs", 2), 3), (("from", "eggs", E30), E30 + 1),
    (("from", "eggs", E30 + 1), E30 + 1), (("from", "fussy", 0), 1), (("from", "fussy", 1), 1),
    (("from", "fussy", E30), E30), (("from", "threes", E30), E30), (("from", "threes", E30 + 2), E30 + 3),
    (("within", "fruit", "eggs"), 3), (("within", "fruit", "fives"), 3), (("within", "all", "fruit"), 1),
    (("within", "eggs", "fussy"), 2), (("within", "fives", "eggs"), 5), (("within", "threes", "eggs"), 3),
    (("within", "eggs", "threes"), 2),
    (("never", "fruit", 0), None), (("never", "fussy", 0), None), (("never", "fruit", 2), None),
    (("never", "eggs", E30), None), (("never", "all", 1), None),
)


class PromisesTest(RefusalCase):
    def broken(self, desk, index, shown, *calls):
        before = state(desk)
        for call in calls:
            with self.subTest(index=index, shown=shown):
                with self.assertRaises(Broken) as caught:
                    call()
                self.assertIs(type(caught.exception), Broken)
                self.assertEqual(vars(caught.exception), {"index": index, "shown": shown})
                self.assertIs(type(caught.exception.shown), type(shown))
                self.assertEqual(state(desk), before)

    def put(self, desk, name, value):
        desk[name] = value

    def test_true_ones_are_kept(self):
        desk = full_desk()
        for at, promise in enumerate(TRUE):
            with self.subTest(promise=promise):
                self.assertIsNone(desk.promise(promise) if at % 2 else desk.promise(promise=promise))
                self.assertEqual(desk.promises, TRUE[:at + 1])
                self.assertIs(desk.promises[at], promise)
                self.assertEqual(desk.changes, 7 + at + 1)

    def test_the_same_promise_twice(self):
        desk = full_desk()
        desk.promise(TRUE[1])
        desk.promise(TRUE[1])
        self.assertEqual(desk.promises, (TRUE[1], TRUE[1]))

    def test_others_are_broken_with_the_index_that_they_would_get(self):
        desk = full_desk()
        for promise, shown in FALSE:
            self.broken(desk, 0, shown, lambda: desk.promise(promise), lambda: desk.promise(promise=promise))
        desk.promise(TRUE[0])
        desk.promise(TRUE[1])
        for promise, shown in FALSE:
            self.broken(desk, 2, shown, lambda: desk.promise(promise))

    def test_from_for_all_orders_that_are_told(self):
        for some, generators in ANSWERED:
            desk = desk_with(("a", some))
            sums = {0}
            for number in range(1, 200):
                if any(number - part in sums for part in generators):
                    sums.add(number)
            for start in range(40):
                missing = next((number for number in range(start, 200) if number not in sums), None)
                if missing is None:
                    desk.promise(("from", "a", start))
                else:
                    self.broken(desk, len(desk.promises), missing, lambda: desk.promise(("from", "a", start)))

    def test_promises_are_asked_when_an_order_is_put(self):
        desk = desk_with(("a", EGGS), ("b", FRUIT), ("c", FUSSY))
        desk.promise(("possible", "c", 0))
        desk.promise(("never", "a", 3))
        desk.promise(("within", "a", "b"))
        desk.promise(("possible", "b", 2))
        desk.promise(("from", "b", 2))
        self.broken(desk, 1, None, lambda: self.put(desk, "a", THREES), lambda: self.put(desk, "a", FRUIT))
        self.broken(desk, 2, 2, lambda: self.put(desk, "b", THREES), lambda: self.put(desk, "b", FUSSY))
        self.broken(desk, 4, 3, lambda: self.put(desk, "b", EGGS))
        desk["a"] = FUSSY
        self.broken(desk, 3, None, lambda: self.put(desk, "b", THREES))
        desk["b"] = ALL
        self.assertEqual((desk["a"], desk["b"], desk.changes, len(desk.promises)), (FUSSY, ALL, 10, 5))

    def test_only_the_promises_in_which_it_stands_are_asked(self):
        desk = desk_with(("a", EGGS), ("b", FRUIT))
        desk.promise(("possible", "a", 2))
        desk["b"] = FUSSY
        desk["b"] = MANY
        desk["c"] = MANY
        self.assertEqual(desk.changes, 6)

    def test_an_order_within_itself(self):
        desk = desk_with(("a", EGGS))
        desk.promise(("within", "a", "a"))
        for some in (FRUIT, FUSSY, ALL):
            desk["a"] = some
        self.refuse(TooMany, "limit", 12, lambda: self.put(desk, "a", MANY))

    def test_too_many(self):
        desk = desk_with(("a", MANY), ("b", FRUIT), ("c", OTHER_MANY))
        before = state(desk)
        for promise in (
            ("possible", "a", 0), ("from", "a", 0), ("never", "a", 0), ("never", "c", 1), ("within", "a", "b"),
            ("within", "b", "a"), ("within", "a", "a"), ("within", "a", "c"),
        ):
            self.refuse(TooMany, "limit", 12, lambda: desk.promise(promise), lambda: desk.promise(promise=promise))
        self.assertEqual(state(desk), before)

    def test_what_comes_first_too_many_or_broken(self):
        desk = desk_with(("a", EGGS), ("b", FRUIT))
        desk.promise(("never", "a", 3))
        desk.promise(("within", "a", "b"))
        desk.promise(("possible", "b", 2))
        before = state(desk)
        self.refuse(TooMany, "limit", 12, lambda: self.put(desk, "a", MANY), lambda: self.put(desk, "b", MANY))
        self.broken(desk, 1, 2, lambda: self.put(desk, "b", FUSSY))
        self.assertEqual(state(desk), before)

    def test_lifted(self):
        desk = full_desk()
        for promise in TRUE[:5]:
            desk.promise(promise)
        self.assertIsNone(desk.lift(1))
        self.assertIsNone(desk.lift(index=3))
        self.assertIsNone(desk.lift(0))
        self.assertEqual(desk.promises, TRUE[2:4])
        self.assertEqual(desk.changes, 15)
        desk.lift(0)
        desk.lift(0)
        self.assertEqual((desk.promises, desk.changes), ((), 17))

    def test_what_was_lifted_is_not_asked(self):
        desk = desk_with(("a", EGGS))
        desk.promise(("never", "a", 3))
        desk.promise(("possible", "a", 2))
        self.broken(desk, 0, None, lambda: self.put(desk, "a", FRUIT))
        desk.lift(0)
        desk["a"] = FRUIT
        self.broken(desk, 0, None, lambda: self.put(desk, "a", FUSSY))


class RefusedPromisesTest(RefusalCase):
    def setUp(self):
        self.desk = full_desk()
        self.desk.promise(TRUE[0])
        self.desk.promise(TRUE[1])
        self.before = state(self.desk)

    def tearDown(self):
        self.assertEqual(state(self.desk), self.before)

    def refuse_promise(self, promise):
        self.refuse(
            InvalidPromise, "given", promise,
            lambda: self.desk.promise(promise), lambda: self.desk.promise(promise=promise),
        )

    def test_no_promises(self):
        for value in values_of_all_kinds() + [0, "possible", list(TRUE[0]), Liar()]:
            self.refuse_promise(value)
        for promise in (TRUE[0], TRUE[8], TRUE[12], TRUE[-1]):
            for wrong in (promise[:2], promise[:1], promise + (1,), promise + ("a",), list(promise), (promise,)):
                self.refuse_promise(wrong)

    def test_wrong_words(self):
        for word in values_of_all_kinds() + ["Possible", "possible ", "nothing", "not", "unused", "in", "fro", "f"]:
            self.refuse_promise((word, "fruit", 2))
            self.refuse_promise((word, "fruit", "eggs"))
            self.refuse_promise((word, "nobody", 2))

    def test_no_numbers_come_ahead_of_unknown_names(self):
        for word in ("possible", "from", "never"):
            for value in values_of_all_kinds() + [-2, "1", (1,), [0], "eggs"]:
                self.refuse_promise((word, "fruit", value))
                self.refuse_promise((word, "nobody", value))
                self.refuse_promise((word, None, value))

    def test_unknown_names(self):
        for name in names_refused() + ["fig", "fruits", "possible", FRUIT, ("fruit",), ["fruit"], BIG]:
            self.refuse(
                UnknownName, "given", name,
                lambda: self.desk.promise(("possible", name, 2)), lambda: self.desk.promise(("from", name, 0)),
                lambda: self.desk.promise(("never", name, 0)), lambda: self.desk.promise(("within", name, "eggs")),
                lambda: self.desk.promise(("within", "eggs", name)), lambda: self.desk.promise(("within", name, 7)),
                lambda: self.desk.promise(promise=("within", "many", name)),
            )

    def test_wrong_indexes(self):
        for value in values_of_all_kinds() + [2, 3, -1, -2, BIG, "0", (0,), [1], TRUE[0]]:
            self.refuse(
                InvalidIndex, "given", value, lambda: self.desk.lift(value), lambda: self.desk.lift(index=value)
            )

    def test_no_promise_to_lift(self):
        desk = full_desk()
        for value in (0, 1, -1, True, False, None):
            self.refuse(InvalidIndex, "given", value, lambda: desk.lift(value))


if __name__ == "__main__":
    unittest.main()
