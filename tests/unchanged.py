"""A case that also asks whether all is as it was."""

import unittest

from tests.callers import ask, look_through


class Unchanged(unittest.TestCase):
    def assert_unchanged(self, before, call, things, weighings):
        """Behind these calls all is as it was once the call is made; gives back what it answers."""
        seen = look_through(things, weighings)
        with_call = ask(*before, call, *seen)
        as_it_was = ask(*before, *seen)[len(before):]
        for asked, given, expected in zip(seen, with_call[len(before) + 1:], as_it_was):
            self.assertEqual(given, expected, (call, asked))
        return with_call[len(before)]

    def assert_refused(self, before, call, number, things, weighings):
        """The call answers this number alone behind these calls, and all is as it was."""
        self.assertEqual(self.assert_unchanged(before, call, things, weighings), [number], call)
