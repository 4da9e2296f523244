"""What tests of refusals have in common."""

import unittest


class Refusals(unittest.TestCase):
    def refused(self, kind, call, *handed_in):
        """The call is refused with just this class; tells the refusal."""
        with self.assertRaises(ValueError) as caught:
            call(*handed_in)
        self.assertIs(caught.exception.__class__, kind, handed_in)
        return caught.exception
