from evenboxes.errors import InvalidNumber, TooMany
from evenboxes.sharing import table
from tests.drawn import Draws, drawn_order, small_orders
from tests.judge import spread, whole_due
from tests.orders_told import EGGS, FRUIT, FUSSY, order
from tests.refusals import RefusalCase

# Triples of the tuples in all, the number of boxes and the order.
EDGES = (
    (1999, 8, order("measure x", "kind a 3: 4", "kind b 3: 1", "kind c 3: 3",
                    "person p 1 without c", "person q 2", "person r 3")),
    (1999, 12, order("measure x, y", "kind a 2: 6, 4", "kind b 3: 4, 0", "kind c 2: 4, 1", "kind d 1: 4, 6",
                     "person p 1", "person q 2")),
    (2000, 9, order("measure x", "kind a 2: 6", "kind b 3: 2", "kind c 3: 5",
                    "person p 1", "person q 1 without c", "person r 1")),
    (2000, 8, order("measure x", "kind a 2: 3", "kind b 1: 1", "kind c 3: 2", "kind d 2: 4",
                    "person p 1 without a", "person q 2", "person r 1 without d")),
    (2000, 10, order("measure x, y", "kind a 1: 6, 2", "kind b 2: 1, 3", "kind c 2: 1, 2", "kind d 2: 4, 3",
                     "person p 1", "person q 2")),
    (2001, 8, order("measure x", "kind a 1: 2", "kind b 1: 3", "kind c 2: 6", "kind d 2: 3",
                    "person p 1", "person q 1", "person r 2")),
    (2001, 9, order("measure x", "kind a 2: 1", "kind b 1: 1", "kind c 1: 6", "kind d 3: 2",
                    "person p 1 without d", "person q 1", "person r 1 without d")),
    (2001, 10, order("measure x, y", "kind a 3: 5, 6", "kind b 1: 1, 5", "kind c 3: 4, 3", "kind d 3: 2, 6",
                     "person p 3 without d", "person q 1")),
    (2002, 4, order("measure x", "kind a 2: 3", "kind b 3: 2", "kind c 2: 3", "kind d 3: 6",
                    "person p 1 without c", "person q 1", "person r 1 without a")),
)


def expected_table(an_order, boxes):
    rows = spread(an_order, boxes)
    return () if rows is None else tuple(tuple(sorted(row)) for row in rows)


class TableTest(RefusalCase):
    def test_of_the_document(self):
        self.assertEqual(table(FRUIT, 1), (((3, 3),), ()))

    def test_by_hand(self):
        self.assertEqual(table(FRUIT, 2), (((0, 12), (3, 9), (6, 6), (9, 3), (12, 0))[1:4], ((10, 10),)))
        self.assertEqual(table(FUSSY, 1), ((), ()))
        self.assertEqual(table(EGGS, 1), ())
        self.assertEqual(table(EGGS, 2), (((3, 3),),))
        self.assertEqual(table(order=EGGS, boxes=4), (((6, 6),),))
        self.assertEqual(table(boxes=4, order=EGGS), (((6, 6),),))

    def test_flat_person_by_person_and_measure_by_measure(self):
        two = order("measure x, y", "kind a 1: 1, 2", "kind b 1: 1, 2", "person p 1", "person q 1")
        self.assertEqual(table(two, 1), (((0, 0, 1, 2), (1, 2, 0, 0)), ((1, 2, 1, 2),)))
        three = order("measure x", "kind a 1: 1", "kind b 2: 1", "person p 1", "person q 1", "person r 1")
        self.assertEqual(table(three, 1), (((0, 0, 1), (0, 1, 0), (1, 0, 0)), ((1, 1, 1),)))

    def test_no_boxes(self):
        self.assertEqual(table(FRUIT, 0), (((0, 0),), ((0, 0),)))
        self.assertEqual(table(FUSSY, 0), (((0, 0),), ((0, 0),)))
        nobody = order("measure x, y", "kind a 1: 2, 0", "person p 1 without a", "person q 2 without a")
        self.assertEqual(table(nobody, 0), (((0, 0, 0, 0),),))

    def test_kinds_that_nobody_takes(self):
        rows = ("kind a 2: 1", "kind b 1: 0", "kind c 2: 1")
        for refused in ("a", "b", "c"):
            some = order("measure x", *rows, f"person p 1 without {refused}", f"person q 1 without {refused}")
            for boxes in range(1, 13):
                found = table(some, boxes)
                at = "abc".index(refused)
                self.assertEqual([row == () for row in found], [place >= at for place in range(3)])

    def test_kinds_of_no_worth(self):
        some = order("measure x", "kind a 3: 0", "kind b 1: 2", "kind c 3: 0",
                     "person p 1 without c", "person q 1 without a", "person r 1 without a, c")
        self.assertEqual(table(some, 3), (
            ((0, 0, 0),), ((2, 2, 2),), ((2, 2, 2),),
        ))
        air = order("measure x", "kind a 3: 0", "kind b 3: 0", "person p 1", "person q 2", "person r 3")
        self.assertEqual(table(air, 12), (((0, 0, 0),), ((0, 0, 0),)))

    def test_small_orders(self):
        whole = 0
        for some in small_orders(240, 31):
            for boxes in range(5):
                with self.subTest(order=str(some), boxes=boxes):
                    expected = expected_table(some, boxes)
                    whole += expected != ()
                    self.assertEqual(table(some, boxes), expected)
        self.assertGreater(whole, 500)

    def test_twelve_boxes(self):
        draws = Draws(32)
        for _ in range(60):
            some = drawn_order(draws, 2, 2, draws.among(1, 2))
            for boxes in (11, 12):
                with self.subTest(order=str(some), boxes=boxes):
                    self.assertEqual(table(some, boxes), expected_table(some, boxes))

    def test_all_is_made_of_tuples_and_integers(self):
        for row in table(FRUIT, 6):
            self.assertIs(type(row), tuple)
            for worths in row:
                self.assertIs(type(worths), tuple)
                self.assertEqual({type(worth) for worth in worths}, {int})

    def test_thirteen_boxes(self):
        for some in (FRUIT, FUSSY, EGGS):
            for boxes in (13, 14, 100, 10 ** 50):
                self.refuse(InvalidNumber, "given", boxes, lambda: table(some, boxes), lambda: table(some, boxes=boxes))

    def test_just_within_and_just_beyond_the_limit(self):
        for many, boxes, some in EDGES:
            with self.subTest(order=str(some), boxes=boxes):
                expected = expected_table(some, boxes)
                self.assertEqual(sum(map(len, expected)), many)
                if many <= 2000:
                    self.assertEqual(table(some, boxes), expected)
                else:
                    self.refuse(TooMany, "limit", 2000, lambda: table(some, boxes), lambda: table(some, boxes=boxes))

    def test_far_beyond_the_limit(self):
        rows = ["kind a 3: 6", "kind b 3: 5", "kind c 3: 4", "kind d 3: 3"]
        great = order("measure x", *rows, "person p 1", "person q 1", "person r 1")
        self.refuse(TooMany, "limit", 2000, lambda: table(great, 12))

    def test_not_whole_comes_ahead_of_too_many(self):
        rows = ["kind a 3: 6", "kind b 3: 6", "kind c 3: 6", "kind d 3: 5"]
        great = order("measure x", *rows, "person p 3", "person q 3", "person r 1")
        self.assertIsNone(whole_due(great, 12))
        self.assertEqual(table(great, 12), ())
