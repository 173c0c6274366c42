"""Taking changes back, and trials."""

import unittest

from evenboxes.desks import Desk
from evenboxes.errors import Broken, InUse, InvalidPromise, NothingToUndo, UnknownName
from tests.desks_told import desk_with, state
from tests.orders_told import EGGS, FRUIT, FUSSY
from tests.refusals import RefusalCase


class Fails(Exception):
    """Ends a trial."""


def told_desk():
    """A desk behind five changes."""
    desk = desk_with(("a", FRUIT), ("b", EGGS))
    desk.promise(("within", "b", "a"))
    desk.promise(("from", "a", 2))
    desk.lift(0)
    return desk


class UndoTest(RefusalCase):
    def nothing_to_undo(self, desk):
        before = state(desk)
        with self.assertRaises(NothingToUndo) as caught:
            desk.undo()
        self.assertIs(type(caught.exception), NothingToUndo)
        self.assertEqual(vars(caught.exception), {})
        self.assertEqual(state(desk), before)

    def test_nothing_to_undo(self):
        desk = Desk()
        self.nothing_to_undo(desk)
        desk["a"] = FRUIT
        self.assertIsNone(desk.undo())
        self.nothing_to_undo(desk)

    def test_back_through_all_stands(self):
        desk = Desk()
        stands = [state(desk)]
        steps = (
            lambda: desk.__setitem__("a", FRUIT), lambda: desk.__setitem__("b", EGGS),
            lambda: desk.promise(("within", "b", "a")), lambda: desk.__setitem__("b", FUSSY),
            lambda: desk.__setitem__("b", FUSSY), lambda: desk.promise(("from", "a", 2)), lambda: desk.lift(0),
            lambda: desk.remove("b"), lambda: desk.__setitem__("c", EGGS), lambda: desk.promise(("never", "c", 1)),
            lambda: desk.lift(1), lambda: desk.lift(0),
        )
        for step in steps:
            step()
            stands.append(state(desk))
        self.assertEqual([stand[3] for stand in stands], list(range(13)))
        for stand in reversed(stands):
            self.assertEqual(state(desk), stand)
            if stand[3]:
                desk.undo()
        self.nothing_to_undo(desk)

    def test_changes_behind_what_was_taken_back(self):
        desk = told_desk()
        desk.undo()
        desk.undo()
        self.assertEqual((desk.promises, desk.changes), ((("within", "b", "a"),), 3))
        desk.lift(0)
        self.assertEqual(state(desk), (("a", "b"), (FRUIT, EGGS), (), 4, 2))
        desk.undo()
        self.assertEqual((desk.promises, desk.changes), ((("within", "b", "a"),), 3))
        for _ in range(3):
            desk.undo()
        self.nothing_to_undo(desk)

    def test_what_is_refused_is_no_change(self):
        desk = told_desk()
        before = state(desk)
        for wanted, call in (
            (Broken, lambda: desk.__setitem__("a", EGGS)), (Broken, lambda: desk.promise(("possible", "b", 1))),
            (InUse, lambda: desk.remove("a")), (UnknownName, lambda: desk.remove("c")),
            (UnknownName, lambda: desk.promise(("from", "c", 0))), (InvalidPromise, lambda: desk.promise(())),
        ):
            with self.assertRaises(wanted):
                call()
            self.assertEqual(state(desk), before)
        desk.undo()
        self.assertEqual(desk.promises, (("within", "b", "a"), ("from", "a", 2)))

    def test_many_changes(self):
        desk = desk_with(("a", FRUIT))
        for _ in range(3000):
            desk.promise(("from", "a", 2))
        self.assertEqual((desk.changes, len(desk.promises)), (3001, 3000))
        for _ in range(3001):
            desk.undo()
        self.nothing_to_undo(desk)


class TrialTest(RefusalCase):
    def setUp(self):
        self.desk = told_desk()
        self.before = state(self.desk)

    def change(self):
        self.desk["c"] = FUSSY
        self.desk.promise(("never", "c", 1))
        self.desk.lift(0)
        self.desk.remove("a")

    def test_what_is_done_in_a_trial_that_ends_well_stays(self):
        with self.desk.trial() as desk:
            self.assertIs(desk, self.desk)
            self.assertEqual(state(desk), self.before)
            self.change()
            behind = state(desk)
        self.assertEqual(state(self.desk), behind)
        self.assertEqual(self.desk.changes, 9)
        for _ in range(4):
            self.desk.undo()
        self.assertEqual(state(self.desk), self.before)

    def test_an_exception_is_passed_on_and_takes_all_back(self):
        for error in (Fails("x"), Broken(1, 2), ValueError(), KeyboardInterrupt(), SystemExit(3), StopIteration()):
            with self.assertRaises(type(error)) as caught:
                with self.desk.trial():
                    self.change()
                    raise error
            self.assertIs(caught.exception, error)
            self.assertEqual(state(self.desk), self.before)

    def test_what_was_taken_back_within_is_there_again(self):
        with self.assertRaises(Fails):
            with self.desk.trial():
                for _ in range(4):
                    self.desk.undo()
                self.assertEqual(state(self.desk), (("a",), (FRUIT,), (), 1, 1))
                self.desk["z"] = EGGS
                raise Fails
        self.assertEqual(state(self.desk), self.before)
        self.desk.undo()
        self.assertEqual(self.desk.promises, (("within", "b", "a"), ("from", "a", 2)))

    def test_nothing_to_undo_ends_a_trial(self):
        with self.assertRaises(NothingToUndo):
            with self.desk.trial() as desk:
                while True:
                    desk.undo()
        self.assertEqual(state(self.desk), self.before)

    def test_what_is_refused_within_changes_nothing(self):
        with self.desk.trial() as desk:
            desk.remove("b")
            middle = state(desk)
            for call in (lambda: desk.remove("a"), lambda: desk.promise(("never", "a", 2)), lambda: desk.lift(5)):
                with self.assertRaises((InUse, Broken, ValueError)):
                    call()
                self.assertEqual(state(desk), middle)
        self.assertEqual(state(self.desk), middle)
        with self.assertRaises(Broken) as caught:
            with self.desk.trial() as desk:
                desk["d"] = EGGS
                desk["a"] = EGGS
        self.assertEqual((caught.exception.index, caught.exception.shown), (0, 3))
        self.assertEqual(state(self.desk), middle)

    def test_left_without_an_exception(self):
        def leave():
            with self.desk.trial() as desk:
                desk.remove("b")
                return desk

        self.assertIs(leave(), self.desk)
        self.assertEqual(self.desk.changes, 6)
        for word in ("x", "y"):
            with self.desk.trial() as desk:
                desk[word] = EGGS
                if word == "x":
                    continue
                break
        self.assertEqual(self.desk.names, ("a", "x", "y"))

    def test_it_begins_when_its_rows_begin(self):
        trial = self.desk.trial()
        self.desk["c"] = FUSSY
        later = state(self.desk)
        with self.assertRaises(Fails):
            with trial as desk:
                desk["d"] = FUSSY
                raise Fails
        self.assertEqual(state(self.desk), later)

    def test_trials_within_trials(self):
        for make in (lambda: self.desk.trial(), lambda trial=self.desk.trial(): trial):
            with self.subTest():
                self.check_within(make)

    def check_within(self, make):
        start = state(self.desk)
        with self.assertRaises(Fails):
            with make() as outer:
                outer["c"] = FUSSY
                middle = state(outer)
                with self.assertRaises(Fails):
                    with make() as inner:
                        self.assertIs(inner, outer)
                        inner.undo()
                        inner.undo()
                        inner["d"] = FUSSY
                        raise Fails
                self.assertEqual(state(self.desk), middle)
                with make() as inner:
                    inner["e"] = FUSSY
                    with make():
                        inner["f"] = FUSSY
                self.assertEqual(self.desk.names, ("a", "b", "c", "e", "f"))
                raise Fails
        self.assertEqual(state(self.desk), start)

    def test_the_inner_one_fails_and_the_outer_one_stays(self):
        trial = self.desk.trial()
        with trial as outer:
            outer["c"] = FUSSY
            with self.assertRaises(Fails):
                with trial:
                    outer.undo()
                    outer.undo()
                    raise Fails
            outer["d"] = EGGS
        self.assertEqual(self.desk.names, ("a", "b", "c", "d"))
        self.assertEqual(self.desk.changes, 7)

    def test_an_exception_through_all_of_them(self):
        trial = self.desk.trial()
        with self.assertRaises(Fails):
            with trial, trial as desk, trial:
                desk["c"] = FUSSY
                with trial:
                    desk["d"] = FUSSY
                    raise Fails
        self.assertEqual(state(self.desk), self.before)

    def test_one_object_again_and_again(self):
        trial = self.desk.trial()
        for name in ("c", "d", "e"):
            with trial as desk:
                desk[name] = FUSSY
            later = state(self.desk)
            with self.assertRaises(Fails):
                with trial as desk:
                    desk.remove(name)
                    raise Fails
            self.assertEqual(state(self.desk), later)

    def test_trials_of_two_desks(self):
        other = told_desk()
        with self.assertRaises(Fails):
            with self.desk.trial() as one:
                with other.trial() as two:
                    one["c"] = FUSSY
                    two["d"] = FUSSY
                    self.assertIs(two, other)
                two["e"] = FUSSY
                raise Fails
        self.assertEqual(state(self.desk), self.before)
        self.assertEqual(other.names, ("a", "b", "d", "e"))

    def test_tried(self):
        def well(desk):
            self.assertIs(desk, self.desk)
            desk["c"] = FUSSY
            return (1, desk.changes)

        def badly(desk):
            self.assertEqual(desk.tried(well)[0], 1)
            desk.undo()
            desk.undo()
            raise Fails

        self.assertEqual(self.desk.tried(well), (1, 6))
        later = state(self.desk)
        self.assertEqual(self.desk.tried(action=lambda desk: None), None)
        for call in (lambda: self.desk.tried(badly), lambda: self.desk.tried(action=badly)):
            with self.assertRaises(Fails):
                call()
            self.assertEqual(state(self.desk), later)
        self.assertIs(self.desk.tried(lambda desk: desk), self.desk)

    def test_tried_within_a_trial(self):
        def badly(desk):
            desk["d"] = FUSSY
            raise Fails

        with self.desk.trial() as desk:
            desk["c"] = FUSSY
            middle = state(desk)
            with self.assertRaises(Fails):
                desk.tried(badly)
            self.assertEqual(state(desk), middle)
        self.assertEqual(state(self.desk), middle)


if __name__ == "__main__":
    unittest.main()
