"""Checks that the tests of several files share."""

from unittest import TestCase

from everydepth.errors import InvalidPicture, Unlike
from tests.model import CARPET, NO_PICTURES, STAIRS, lists_in


class PromiseCase(TestCase):
    def refused(self, error, value, function, *told):
        """The call raises this very class, with an equal value that shares no list with what was passed."""
        with self.assertRaises(error) as caught:
            function(*told)
        self.assertIs(caught.exception.__class__, error)
        self.assertEqual(caught.exception.value, value)
        self.assertIs(caught.exception.value.__class__, value.__class__)
        passed = [id(entry) for entry in lists_in(list(told))]
        stored = [id(entry) for entry in lists_in(caught.exception.value)]
        self.assertEqual(len(stored), len(set(stored)))
        self.assertFalse(set(stored) & set(passed))

    def pictures_refused(self, function, *behind):
        """No picture is refused ahead of all that stands behind it."""
        for value in NO_PICTURES:
            self.refused(InvalidPicture, value, function, value, *behind)

    def pairs_refused(self, function, *behind):
        """Of two pictures each is refused, then an unlike base, ahead of all that stands behind them."""
        for value in NO_PICTURES:
            self.refused(InvalidPicture, value, function, value, None, *behind)
            self.refused(InvalidPicture, value, function, STAIRS, value, *behind)
            self.refused(InvalidPicture, value, function, CARPET, value, *behind)
        self.refused(Unlike, 3, function, STAIRS, CARPET, *behind)
        self.refused(Unlike, 2, function, CARPET, STAIRS, *behind)

    def all_new(self, function, *told):
        """No list stands in two places of what is returned, nor in what is returned by the same call again."""
        first = lists_in(function(*told))
        again = lists_in(function(*told))
        seen = [id(entry) for entry in first + again + lists_in(list(told))]
        self.assertEqual(len(seen), len(set(seen)))
