"""Desks held against a model of them, through drawn changes, wrong ones among them, and trials."""

import unittest

from evenboxes.desks import Desk
from evenboxes.errors import NoAnswer, WrongName, WrongValue
from evenboxes.orders import Order
from tests.desk_model import Model, Told
from tests.drawn import Draws
from tests.orders_told import ANSWERED, NOT_TOLD

ORDERS = [order for order, _ in ANSWERED[:20]] + [order for order, _ in NOT_TOLD[:2]]
NAMES = ("a", "b", "c1", "d")
NUMBERS = (0, 1, 2, 3, 4, 5, 6, 7, 8, 12, 13, 24, 60, 10 ** 30, 10 ** 30 + 1)


class Fails(Exception):
    """Ends a trial."""


class DrawnDesksTest(unittest.TestCase):
    @classmethod
    def setUpClass(cls):
        cls.told = {str(order): Told(order) for order in ORDERS}

    def test_drawn_changes(self):
        self.seen = set()
        for seed in range(40):
            self.draws = Draws(200 + seed)
            self.desk = Desk()
            self.model = Model(self.told)
            with self.subTest(seed=seed):
                self.run_changes(60, 0)
        self.assertLessEqual(
            {
                "put", "put: Broken", "put: TooMany", "remove", "remove: UnknownName", "remove: InUse",
                "possible", "possible: Broken", "from", "from: Broken", "within", "within: Broken", "never",
                "never: Broken", "never: TooMany", "within: UnknownName", "lift", "lift: InvalidIndex",
                "undo", "undo: NothingToUndo", "trial", "trial that fails",
            },
            self.seen,
        )

    def run_changes(self, many, depth):
        for _ in range(many):
            drawn = self.draws.below(20)
            if drawn == 0 and depth < 3:
                self.run_trial(depth)
            else:
                self.run_change(drawn)
            self.compare()

    def run_trial(self, depth):
        state = self.model.state()
        fails = self.draws.below(2) == 0
        again = self.draws.below(2) == 0
        self.seen.add("trial that fails" if fails else "trial")

        def action(desk):
            self.assertIs(desk, self.desk)
            self.run_changes(self.draws.below(12), depth + 1)
            if fails:
                raise Fails
            return depth

        if fails:
            with self.assertRaises(Fails):
                if again:
                    self.desk.tried(action)
                with self.desk.trial() as desk:
                    action(desk)
            self.model.restore(state)
        else:
            self.assertEqual(self.desk.tried(action), depth)

    def run_change(self, drawn):
        name = self.draws.one_of(NAMES)
        if drawn < 6:
            order = self.draws.one_of(ORDERS)
            self.both("put", lambda desk: desk.__setitem__(name, order), lambda model: model.put(name, order))
        elif drawn < 8:
            self.both("remove", lambda desk: desk.remove(name), lambda model: model.remove(name))
        elif drawn < 15:
            promise = self.drawn_promise(name)
            self.both(promise[0], lambda desk: desk.promise(promise), lambda model: model.promise(promise))
        elif drawn < 17:
            index = self.draws.among(-1, len(self.model.promised))
            self.both("lift", lambda desk: desk.lift(index), lambda model: model.lift(index))
        else:
            self.both("undo", lambda desk: desk.undo(), lambda model: model.undo())

    def drawn_promise(self, name):
        word = self.draws.one_of(("possible", "from", "within", "never"))
        return (word, name, self.draws.one_of(NAMES) if word == "within" else self.draws.one_of(NUMBERS))

    def both(self, word, change, model_change):
        error = None
        try:
            self.assertIsNone(change(self.desk))
        except (WrongValue, WrongName, NoAnswer) as caught:
            error = (type(caught).__name__, vars(caught))
        self.assertEqual(error, model_change(self.model))
        self.seen.add(f"{word}: {error[0]}" if error else word)

    def compare(self):
        model = self.model
        desk = self.desk
        self.assertEqual(desk.names, tuple(sorted(model.orders)))
        self.assertEqual(desk.promises, tuple(model.promised))
        self.assertEqual(desk.changes, len(model.history))
        self.assertEqual(len(desk), len(model.orders))
        for name in NAMES:
            self.assertIs(name in desk, name in model.orders)
            if name in model.orders:
                self.assertIs(desk[name], model.orders[name])
                self.assertIs(type(desk[name]), Order)


if __name__ == "__main__":
    unittest.main()
