"""A test case that asks whether a call is refused with just the right error."""

import unittest


class RefusalCase(unittest.TestCase):
    def refuse(self, wanted, attribute, value, *calls):
        """Each of the calls, functions without arguments, raises this very error with this attribute."""
        for call in calls:
            with self.subTest(wanted=wanted.__name__, value=repr(value)[:80]):
                with self.assertRaises(wanted) as caught:
                    call()
                self.assertIs(type(caught.exception), wanted)
                self.assertEqual(vars(caught.exception).keys(), {attribute})
                told = getattr(caught.exception, attribute)
                self.assertIs(type(told), type(value))
                if attribute == "given":
                    self.assertIs(told, value)
                else:
                    self.assertEqual(told, value)
