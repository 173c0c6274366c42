import unittest

from evenboxes import limits

VALUES = {
    "MOST_KINDS": 4,
    "MOST_PEOPLE": 3,
    "MOST_COUNT": 3,
    "MOST_WORTH": 6,
    "MOST_SHARE": 3,
    "MOST_BOXES": 12,
    "MOST_ROWS": 2000,
    "MOST_NUMBER": 1000,
    "MOST_TRIED": 6,
}


class LimitsTest(unittest.TestCase):
    def test_the_nine_values(self):
        for name, value in VALUES.items():
            with self.subTest(name=name):
                self.assertEqual(getattr(limits, name), value)
                self.assertIs(type(getattr(limits, name)), int)

    def test_there_are_no_others(self):
        self.assertEqual({name for name in dir(limits) if not name.startswith("_")}, set(VALUES))


if __name__ == "__main__":
    unittest.main()
