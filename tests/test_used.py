import unittest

from evenboxes.sharing import used
from tests.drawn import small_orders
from tests.judge import possible_up_to, used_if_cut, used_in
from tests.orders_told import ANSWERED, FRUIT, FUSSY, NOT_TOLD, order


class UsedTest(unittest.TestCase):
    def test_of_the_document(self):
        self.assertEqual(used(FRUIT), ((0, 0), (0, 1), (1, 0), (1, 1)))
        self.assertEqual(used(FUSSY), ())

    def test_by_hand(self):
        for rows, pairs in (
            (("kind a 1: 1", "person p 1", "person q 1"), ((0, 0), (1, 0))),
            (("kind a 1: 1", "person p 1", "person q 1 without a"), ()),
            # Of no worth: who does not refuse it can get it.
            (("kind a 1: 0", "person p 1", "person q 1 without a"), ((0, 0),)),
            (("kind a 1: 0", "person p 1", "person q 1"), ((0, 0), (1, 0))),
            (("kind a 1: 0", "kind b 1: 2", "person p 1 without a", "person q 1"), ((0, 1), (1, 0), (1, 1))),
            # The one gets all of the one kind, and so nothing of the other, though it is not refused.
            (("kind a 1: 2", "kind b 1: 2", "person p 1", "person q 1 without b"), ((0, 1), (1, 0))),
            (("kind a 1: 1", "kind b 1: 2", "person p 2", "person q 1 without b"), ((0, 1), (1, 0))),
            (("kind a 1: 1", "kind b 1: 3", "person p 2", "person q 1 without b"), ()),
            (("kind a 1: 3", "kind b 1: 3", "person p 2", "person q 1 without b"), ((0, 0), (0, 1), (1, 0))),
            # A kind that nobody takes is in the way of all sharings.
            (("kind a 1: 0", "kind b 1: 2", "person p 1 without a", "person q 1 without a"), ()),
            (("kind a 1: 2", "kind b 1: 2", "kind c 1: 2", "person p 1 without b, c", "person q 1 without a, c",
              "person r 1 without a, b"), ((0, 0), (1, 1), (2, 2))),
            (("kind a 1: 2", "kind b 1: 2", "kind c 1: 2", "person p 1", "person q 1 without c",
              "person r 1 without b, c"), ((0, 2), (1, 1), (2, 0))),
        ):
            some = order("measure x", *rows)
            with self.subTest(order=str(some)):
                self.assertEqual(used(some), pairs)
                self.assertEqual(used(order=some), pairs)

    def test_two_measures(self):
        crossed = order("measure x, y", "kind a 1: 1, 0", "kind b 1: 0, 1", "person p 1", "person q 1")
        self.assertEqual(used(crossed), ((0, 0), (0, 1), (1, 0), (1, 1)))
        # In the sum of both measures all would be well, but the one takes nothing of the one measure.
        apart = order("measure x, y", "kind a 1: 1, 0", "kind b 1: 0, 1", "person p 1 without b", "person q 1")
        self.assertEqual(used(apart), ())
        # The kind a alone is all that the first one is due in the one measure; the other measure does not matter there.
        edge = order("measure x, y", "kind a 1: 2, 0", "kind b 1: 2, 0", "kind c 1: 0, 1", "person p 1",
                     "person q 1 without a")
        self.assertEqual(used(edge), ((0, 0), (0, 2), (1, 1), (1, 2)))
        # Neither measure alone is in the way, but behind the kind a just the kind b makes up the rest of both.
        slanted = order("measure x, y", "kind a 1: 1, 2", "kind b 1: 2, 1", "kind c 1: 3, 3", "person p 1",
                        "person q 1 without a")
        self.assertEqual(used(slanted), ((0, 0), (0, 1), (1, 2)))

    def test_pairs_that_are_there_in_counted_sharings(self):
        # A pair that is not told to be used is in no sharing, and the least sharings already use most of the others.
        missed = told = 0
        for some in small_orders(300, 61):
            pairs = used(some)
            counted = used_in(some, range(8))
            with self.subTest(order=str(some)):
                self.assertLessEqual(set(counted), set(pairs))
                told += len(pairs)
                missed += len(pairs) - len(counted)
        self.assertGreater(told, 500)
        self.assertLess(missed * 5, told)

    def test_each_pair_is_used_in_some_number_of_boxes(self):
        for some in small_orders(90, 62):
            numbers = possible_up_to(some, 24)[1:]
            if numbers:
                least = numbers[0]
                with self.subTest(order=str(some)):
                    self.assertEqual(used(some), used_in(some, [*numbers[:6], 4 * least, 8 * least]))

    def test_the_same_as_if_things_may_be_cut(self):
        for some in [*small_orders(400, 63), *[row[0] for row in ANSWERED + NOT_TOLD]]:
            with self.subTest(order=str(some)):
                self.assertEqual(used(some), used_if_cut(some))

    def test_no_limit(self):
        for some, _ in NOT_TOLD:
            self.assertNotEqual(used(some), ())

    def test_all_is_made_of_tuples_and_integers(self):
        self.assertEqual([type(pair) for pair in used(FRUIT)], [tuple] * 4)
        self.assertEqual({type(index) for pair in used(FRUIT) for index in pair}, {int})
        self.assertIs(type(used(FUSSY)), tuple)


if __name__ == "__main__":
    unittest.main()
