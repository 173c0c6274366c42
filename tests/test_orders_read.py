import re
import unittest

from evenboxes.errors import InvalidText
from evenboxes.orders import Order
from tests.samples import FRUIT_TEXT, Liar, expected_text, fruit, valid_arguments, values_of_all_kinds

NAME = "[a-z][a-z0-9]{0,7}"
MEASURE_ROW = re.compile(f"measure ({NAME}(?:, {NAME})?)")
KIND_ROW = re.compile(f"kind ({NAME}) ([1-3]): ([0-6](?:, [0-6])?)")
PERSON_ROW = re.compile(f"person ({NAME}) ([1-3])(?: without ({NAME}(?:, {NAME}){{0,3}}))?")
SIGNS = "\n ,:-.0127akmw\t"


def split_rows(rows, pattern):
    """The matches of the rows at the beginning that this pattern fits, and the other rows."""
    many = 0
    while many < len(rows) and pattern.fullmatch(rows[many]):
        many += 1
    return [pattern.fullmatch(row) for row in rows[:many]], rows[many:]


def is_text(text):
    """Whether this is the text of an order, judged apart from the program."""
    measures, rows = split_rows(text.split("\n"), MEASURE_ROW)
    kinds, rows = split_rows(rows, KIND_ROW)
    people, rows = split_rows(rows, PERSON_ROW)
    if rows or len(measures) != 1:
        return False
    names = measures[0][1].split(", ")
    kind_names = [kind[1] for kind in kinds]
    person_names = [person[1] for person in people]
    refused = [person[3].split(", ") if person[3] else [] for person in people]
    return (
        len(set(names)) == len(names)
        and 1 <= len(kinds) <= 4 and len(set(kind_names)) == len(kinds)
        and all(len(kind[3].split(", ")) == len(names) for kind in kinds)
        and 2 <= len(people) <= 4 - len(names) and len(set(person_names)) == len(people)
        and all(words == [name for name in kind_names if name in words] for words in refused)
    )


def near(text):
    """Texts that differ in one sign: put in, left out, exchanged, or two beside one another turned."""
    found = set()
    for at in range(len(text) + 1):
        found.add(text[:at] + text[at + 1:])
        found.add(text[:at] + text[at + 1:at + 2] + text[at:at + 1] + text[at + 2:])
        found.add(text[:at] + text[at:at + 1] + text[at:])
        for sign in SIGNS:
            found.add(text[:at] + sign + text[at:])
            found.add(text[:at] + sign + text[at + 1:])
    return sorted(found)


def near_rows(text):
    """Texts with a row doubled, left out or exchanged with another."""
    rows = text.split("\n")
    found = set()
    for at in range(len(rows)):
        found.add("\n".join(rows[:at] + rows[at + 1:]))
        for other in range(len(rows) + 1):
            found.add("\n".join(rows[:other] + [rows[at]] + rows[other:]))
        for other in range(at):
            turned = list(rows)
            turned[at], turned[other] = turned[other], turned[at]
            found.add("\n".join(turned))
    return sorted(found)


class ReadTest(unittest.TestCase):
    def refuse(self, value):
        for read in (lambda: Order.read(value), lambda: Order.read(text=value)):
            with self.subTest(value=value):
                with self.assertRaises(InvalidText) as caught:
                    read()
                self.assertIs(type(caught.exception), InvalidText)
                self.assertIs(caught.exception.given, value)

    def judge(self, text):
        """Reads the text if it is that of an order; it must be refused otherwise."""
        if is_text(text):
            self.assertEqual(str(Order.read(text)), text)
        else:
            self.refuse(text)

    def test_each_valid_order_by_position_and_by_name(self):
        for arguments in valid_arguments():
            text = expected_text(*arguments)
            with self.subTest(text=text):
                self.assertTrue(is_text(text))
                for order in (Order.read(text), Order.read(text=text)):
                    self.assertIs(type(order), Order)
                    self.assertEqual((order.measures, order.kinds, order.people), arguments)
                    self.assertEqual(order, Order(*arguments))
                    self.assertEqual(str(order), text)

    def test_off_an_order(self):
        self.assertEqual(Order(*valid_arguments()[5]).read(FRUIT_TEXT), Order(*fruit()))

    def test_values_that_are_no_strings(self):
        order = Order(*fruit())
        for value in values_of_all_kinds() + [order, fruit(), FRUIT_TEXT.encode(), FRUIT_TEXT.split("\n"), (FRUIT_TEXT,)]:
            if not isinstance(value, str):
                self.refuse(value)

    def test_texts_near_that_of_the_document(self):
        for text in near(FRUIT_TEXT) + near_rows(FRUIT_TEXT):
            self.judge(text)

    def test_texts_near_other_orders(self):
        for arguments in valid_arguments()[3::71]:
            for text in near(expected_text(*arguments)):
                self.judge(text)

    def test_rows_doubled_left_out_or_exchanged(self):
        for arguments in valid_arguments()[::5]:
            for text in near_rows(expected_text(*arguments)):
                self.judge(text)

    def test_what_stands_behind_or_before(self):
        for more in ("\n", " ", "\t", ",", ":", "\n\n", "\nkind", "\nperson", "\nmeasure", "\nx", "\n#", ", plum", "\r"):
            self.refuse(FRUIT_TEXT + more)
            self.refuse(more + FRUIT_TEXT)

    def test_other_blanks(self):
        self.refuse(FRUIT_TEXT.replace(" ", "  "))
        self.refuse(FRUIT_TEXT.replace(" ", "\t"))
        self.refuse(FRUIT_TEXT.replace(", ", ","))
        self.refuse(FRUIT_TEXT.replace(", ", " , "))
        self.refuse(FRUIT_TEXT.replace(", ", " "))
        self.refuse(FRUIT_TEXT.replace(": ", ":"))
        self.refuse(FRUIT_TEXT.replace(": ", " : "))
        self.refuse(FRUIT_TEXT.replace(": ", " "))
        self.refuse(FRUIT_TEXT.replace("\n", "\r\n"))
        self.refuse(FRUIT_TEXT.replace("\n", "\n\n"))
        self.refuse(FRUIT_TEXT.replace("\n", " \n"))
        self.refuse(FRUIT_TEXT.replace("\n", " "))

    def test_other_digits(self):
        for text, numbers in ((FRUIT_TEXT, ("plum 3", "pear 2", "fig 1", "bob 2", ": 5", ": 0", ", 4")),):
            for number in numbers:
                self.assertIn(number, text)
                digit = number[-1]
                for other in ("0" + digit, "+" + digit, "-" + digit, digit + "0", digit + "_", "_" + digit, digit + ".0",
                              "00" + digit, "0x" + digit, digit + "e0", "", "x", "7", "8", "9", "10", "1 1", "one"):
                    self.refuse(text.replace(number, number[:-1] + other))

    def test_other_words(self):
        for one, other in (
            ("measure", "measures"), ("measure", "Measure"), ("measure", "kind"), ("measure ", "measure: "),
            ("kind", "kinds"), ("kind", "person"), ("kind", "KIND"), ("kind ", ""), ("kind", "measure"),
            ("person", "people"), ("person", "kind"), ("person ", ""), ("person", "measure"),
            ("without", "with"), ("without ", ""), ("without", "Without"), ("without", "without without"),
            (" without plum, fig", " without"), (" without plum, fig", " without "), ("plum, fig", "fig, plum"),
            ("plum, fig", "plum, plum"), ("plum, fig", "plum, nut"), ("plum, fig", "plum, fig,"),
            ("plum, fig", "plum and fig"), ("kind fig", "kind plum"), ("person bob", "person ann"),
            ("weight, price", "weight, weight"), ("weight, price", "weight"), ("weight, price", "weight, price, size"),
            (": 5, 4", ": 5"), (": 5, 4", ": 5, 4, 3"), (": 5, 4", ":"), (": 5, 4", ""), (": 5, 4", ": ,"),
        ):
            self.assertIn(one, FRUIT_TEXT)
            self.refuse(FRUIT_TEXT.replace(one, other))

    def test_short_and_strange_texts(self):
        for text in ("", "\n", " ", "measure", "measure ", "kind", "person", "measure weight", "plum", "None",
                     "\n".join(["measure", "kind", "person", "person"]), repr(Order(*fruit())), "x" * 4000,
                     "\n" * 4000, "measure w\n" * 400, "kind a 1: 1\n" * 300, "1" * 4000):
            self.refuse(text)

    def test_too_many_rows(self):
        people = "person a 1\nperson b 1"
        kinds = "kind a 1: 1\nkind b 1: 1\nkind c 1: 1\nkind d 1: 1"
        self.assertEqual(len(Order.read(f"measure w\n{kinds}\n{people}").kinds), 4)
        self.refuse(f"measure w\n{kinds}\nkind e 1: 1\n{people}")
        self.assertEqual(len(Order.read(f"measure w\n{kinds}\n{people}\nperson c 1").people), 3)
        self.refuse(f"measure w\n{kinds}\n{people}\nperson c 1\nperson d 1")
        self.refuse("measure w, v\nkind a 1: 1, 1\n" + people + "\nperson c 1")
        self.refuse(f"measure w\n{people}")
        self.refuse(f"measure w\n{kinds}")
        self.refuse(f"measure w\n{kinds}\nperson a 1")

    def test_rows_in_another_order(self):
        rows = FRUIT_TEXT.split("\n")
        self.refuse("\n".join(rows[::-1]))
        self.refuse("\n".join(rows[1:] + rows[:1]))
        self.refuse("\n".join(rows[:1] + rows[4:] + rows[1:4]))
        self.refuse("\n".join(["measure weight", "measure price"] + rows[1:]))

    def test_a_value_that_claims_to_equal_the_text(self):
        self.refuse(Liar())


if __name__ == "__main__":
    unittest.main()
