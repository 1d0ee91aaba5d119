"""What test cases of several files need."""

import unittest


class RefusalCase(unittest.TestCase):
    def refuses(self, error, asked, *given, **fields):
        """Whether that very error is raised, with these fields."""
        with self.assertRaises(error) as caught:
            asked(*given)
        self.assertIs(caught.exception.__class__, error)
        for name, told in fields.items():
            self.assertEqual(getattr(caught.exception, name), told)
