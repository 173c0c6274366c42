import unittest

from evenboxes.errors import InvalidKinds, InvalidMeasures, InvalidPeople
from evenboxes.orders import Order
from tests.samples import Liar, fruit, names_refused, not_in_range, values_of_all_kinds

FOUR_KINDS = (("a", 1, (1,)), ("b", 2, (2,)), ("c", 3, (3,)), ("d", 1, (4,)))
FOUR_KINDS_BY_TWO = (("a", 1, (1, 0)), ("b", 2, (2, 6)), ("c", 3, (3, 2)), ("d", 1, (4, 4)))
THREE_PEOPLE = (("ann", 1, ()), ("bob", 2, ("a",)), ("cid", 3, ("b", "d")))


def replaced(row, at, value):
    return row[:at] + (value,) + row[at + 1:]


def no_tuples(row):
    """Values in the place of this tuple that are none."""
    kinds = [value for value in values_of_all_kinds() if value != ()]
    return kinds + [list(row), 0, 7, "abc", iter(row), {part: 1 for part in "abc"}]


class RefusedTest(unittest.TestCase):
    def check(self, wanted, index, measures, kinds, people):
        for make in (
            lambda: Order(measures, kinds, people),
            lambda: Order(people=people, kinds=kinds, measures=measures),
        ):
            with self.subTest(measures=measures, kinds=kinds, people=people):
                with self.assertRaises(wanted) as caught:
                    make()
                self.assertIs(type(caught.exception), wanted)
                self.assertEqual(caught.exception.index, index)
                self.assertIs(type(caught.exception.index), type(index))


class MeasuresRefusedTest(RefusedTest):
    def refuse(self, index, measures):
        self.check(InvalidMeasures, index, measures, *fruit()[1:])

    def test_no_tuple_or_none(self):
        self.refuse(None, ())
        for value in no_tuples(("weight", "price")) + ["weight"]:
            self.refuse(None, value)

    def test_names_that_are_none(self):
        for value in names_refused():
            self.refuse(0, (value,))
            self.refuse(0, (value, "price"))
            self.refuse(1, ("weight", value))
            self.refuse(0, (value, value))

    def test_names_that_are_there_already(self):
        self.refuse(1, ("weight", "weight"))
        self.refuse(1, ("weight", "weight", "price"))

    def test_one_too_many(self):
        self.refuse(2, ("weight", "price", "number"))
        self.refuse(2, ("weight", "price", "weight"))
        self.refuse(2, ("weight", "price", None, 4))
        self.refuse(1, ("weight", 1, "number"))
        self.refuse(0, ("", "price", "number"))


class KindsRefusedTest(RefusedTest):
    def refuse(self, index, kinds, measures=("weight",)):
        self.check(InvalidKinds, index, measures, kinds, (("ann", 1, ()), ("bob", 1, ())))

    def refuse_at_each_place(self, kind):
        """This kind in the place of each of up to four, all else right for one measure."""
        for many in (1, 2, 3, 4):
            for at in range(many):
                self.refuse(at, replaced(FOUR_KINDS[:many], at, kind))

    def test_no_tuple_or_none(self):
        self.refuse(None, ())
        for value in no_tuples(FOUR_KINDS):
            self.refuse(None, value)

    def test_no_triples(self):
        for value in no_tuples(("e", 1, (1,))):
            self.refuse_at_each_place(value)
        for value in ((), ("e",), ("e", 1), ("e", 1, (1,), ()), ("e", 1, (1,), ("a",)), ("e", 1, 1), (("e", 1, (1,)),)):
            self.refuse_at_each_place(value)

    def test_names_that_are_none(self):
        for value in names_refused():
            self.refuse_at_each_place((value, 1, (1,)))

    def test_names_that_are_there_already(self):
        for at in (1, 2, 3):
            for before in range(at):
                self.refuse(at, replaced(FOUR_KINDS, at, (FOUR_KINDS[before][0], 1, (6,))))
                self.refuse(at, replaced(FOUR_KINDS[:at + 1], at, FOUR_KINDS[before]))

    def test_counts(self):
        for value in not_in_range(1, 3):
            self.refuse_at_each_place(("e", value, (1,)))

    def test_worths_that_are_none(self):
        for value in not_in_range(0, 6):
            self.refuse_at_each_place(("e", 1, (value,)))
            for at in range(4):
                for worths in ((value, 1), (1, value)):
                    self.refuse(at, replaced(FOUR_KINDS_BY_TWO, at, ("e", 1, worths)), ("weight", "price"))

    def test_worths_that_are_no_tuple_of_the_right_length(self):
        for value in no_tuples((1,)) + [(), (1, 2), (1, 2, 3), [1], 1]:
            self.refuse_at_each_place(("e", 1, value))
        for value in no_tuples((1, 2)) + [(), (1,), (1, 2, 3), [1, 2], 1]:
            for at in range(4):
                self.refuse(at, replaced(FOUR_KINDS_BY_TWO, at, ("e", 1, value)), ("weight", "price"))

    def test_one_too_many(self):
        for fifth in (("e", 1, (1,)), ("a", 1, (1,)), None, 5, ()):
            self.refuse(4, FOUR_KINDS + (fifth,))
            self.refuse(4, FOUR_KINDS + (fifth, fifth))
            for at in range(4):
                self.refuse(at, replaced(FOUR_KINDS, at, ("e", 4, (1,))) + (fifth,))
            self.refuse(3, FOUR_KINDS[:3] + (FOUR_KINDS[0], fifth))

    def test_the_first_one_of_several(self):
        self.refuse(1, (("a", 1, (1,)), ("b", 0, (1,)), ("c", 0, (1,))))
        self.refuse(0, (("a", 4, (1,)), ("a", 1, (1,))))


class PeopleRefusedTest(RefusedTest):
    def refuse(self, index, people, kinds=FOUR_KINDS, measures=("weight",)):
        self.check(InvalidPeople, index, measures, kinds, people)

    def refuse_by_two(self, index, people):
        self.refuse(index, people, FOUR_KINDS_BY_TWO, ("weight", "price"))

    def refuse_at_each_place(self, person):
        """This one in the place of each of two or three people, all else right."""
        for at in range(3):
            self.refuse(at, replaced(THREE_PEOPLE, at, person))
        for at in range(2):
            self.refuse(at, replaced(THREE_PEOPLE[:2], at, person))
            self.refuse_by_two(at, replaced(THREE_PEOPLE[:2], at, person))

    def test_no_tuple(self):
        for value in no_tuples(THREE_PEOPLE):
            self.refuse(None, value)
            self.refuse_by_two(None, value)

    def test_fewer_than_two_ahead_of_all_else(self):
        for people in ((), THREE_PEOPLE[:1], (None,), (("ann", 0, ()),), (("ann", 1, ("pear",)),), ((),), ("ann",)):
            self.refuse(None, people)
            self.refuse_by_two(None, people)

    def test_no_triples(self):
        for value in no_tuples(("dan", 1, ())):
            self.refuse_at_each_place(value)
        for value in ((), ("dan",), ("dan", 1), ("dan", 1, (), ()), ("dan", 1, ("a",), "a"), (("dan", 1, ()),)):
            self.refuse_at_each_place(value)

    def test_names_that_are_none(self):
        for value in names_refused():
            self.refuse_at_each_place((value, 1, ()))

    def test_names_that_are_there_already(self):
        self.refuse(1, (("ann", 1, ()), ("ann", 2, ("a",))))
        self.refuse_by_two(1, (("ann", 1, ()), ("ann", 2, ("a",))))
        self.refuse(1, (("ann", 1, ()), ("ann", 1, ()), ("bob", 1, ())))
        self.refuse(2, (("ann", 1, ()), ("bob", 1, ()), ("bob", 1, ())))
        self.refuse(2, (("ann", 1, ()), ("bob", 1, ()), ("ann", 1, ())))

    def test_shares(self):
        for value in not_in_range(1, 3):
            self.refuse_at_each_place(("dan", value, ()))

    def test_refused_kinds_that_are_no_tuple(self):
        for value in no_tuples(("a",)) + ["a", ["a"], "", None]:
            self.refuse_at_each_place(("dan", 1, value))

    def test_refused_kinds_that_are_unknown(self):
        for word in names_refused() + ["e", "aa", "ann", "weight", "A", ("a",), ["a"], 0, 1]:
            self.refuse_at_each_place(("dan", 1, (word,)))
            self.refuse_at_each_place(("dan", 1, ("a", word)))
            self.refuse_at_each_place(("dan", 1, (word, "d")))
            self.refuse_at_each_place(("dan", 1, ("a", "b", "c", "d", word)))

    def test_refused_kinds_of_a_shorter_order(self):
        self.refuse(0, (("ann", 1, ("b",)), ("bob", 1, ())), FOUR_KINDS[:1])
        self.refuse(1, (("ann", 1, ("a",)), ("bob", 1, ("a", "c"))), FOUR_KINDS[:2])

    def test_refused_kinds_that_are_doubled(self):
        for words in (("a", "a"), ("a", "b", "b"), ("a", "a", "d"), ("d", "d"), ("a", "b", "c", "d", "d")):
            self.refuse_at_each_place(("dan", 1, words))

    def test_refused_kinds_that_are_out_of_order(self):
        for words in (("b", "a"), ("d", "a"), ("a", "c", "b"), ("d", "c", "b", "a"), ("a", "b", "a")):
            self.refuse_at_each_place(("dan", 1, words))
        # The order of the kinds is told, not that of the letters.
        turned = FOUR_KINDS[::-1]
        self.refuse(1, (("ann", 1, ("b", "a")), ("bob", 1, ("a", "b"))), turned)
        self.assertEqual(Order(("w",), turned, (("ann", 1, ("b", "a")), ("bob", 1, ()))).people[0][2], ("b", "a"))

    def test_refused_kinds_that_claim_to_be_names(self):
        for many in (1, 2, 3, 4, 5):
            self.refuse_at_each_place(("dan", 1, (Liar(),) * many))

    def test_one_too_many(self):
        for more in (("dan", 1, ()), ("ann", 1, ()), None, 5, ()):
            self.refuse(3, THREE_PEOPLE + (more,))
            self.refuse(3, THREE_PEOPLE + (more, more))
            self.refuse_by_two(2, THREE_PEOPLE[:2] + (more,))
            self.refuse_by_two(2, THREE_PEOPLE[:2] + (more, more))
            for at in range(3):
                self.refuse(at, replaced(THREE_PEOPLE, at, ("eve", 4, ())) + (more,))
            for at in range(2):
                self.refuse_by_two(at, replaced(THREE_PEOPLE[:2], at, ("eve", 4, ())) + (more,))
            self.refuse_by_two(1, (THREE_PEOPLE[0], THREE_PEOPLE[0], more))

    def test_the_first_one_of_several(self):
        self.refuse(1, (("ann", 1, ()), ("bob", 0, ()), ("cid", 0, ())))
        self.refuse(0, (("ann", 0, ()), ("ann", 0, ())))


class SeveralRefusedTest(RefusedTest):
    def test_measures_first_then_kinds_then_people(self):
        measures, kinds, people = fruit()
        for bad_kinds in (kinds, None, (), (None,), (("plum", 3, (1,)),)):
            for bad_people in (people, None, (), (None, None)):
                self.check(InvalidMeasures, 1, ("weight", "W"), bad_kinds, bad_people)
                self.check(InvalidMeasures, None, [], bad_kinds, bad_people)
                self.check(InvalidMeasures, 2, measures + ("more",), bad_kinds, bad_people)
        for bad_people in (people, None, (), (None, None), (("ann", 1, ("none",)), None)):
            self.check(InvalidKinds, 1, measures, (kinds[0], kinds[0]), bad_people)
            self.check(InvalidKinds, None, measures, list(kinds), bad_people)
            self.check(InvalidKinds, 0, measures[:1], kinds, bad_people)
        self.check(InvalidPeople, 1, measures, kinds, (people[0], people[0]))


if __name__ == "__main__":
    unittest.main()
