"""What the tests have in common."""

import unittest

from versionshelf.errors import ShelfError
from versionshelf.shelf import Shelf
from versionshelf.texts import written


def put(shelf, branch, **values):
    """Commits values (None: gone) in a branch by a hand of its own; the moment of it."""
    hand = shelf.begin(branch)
    for key, value in values.items():
        if value is None:
            shelf.erase(hand, key)
        else:
            shelf.write(hand, key, value)
    return shelf.commit(hand)


class ShelfTest(unittest.TestCase):
    def setUp(self):
        self.shelf = Shelf()

    def refused(self, error, name, *given):
        """Refused with just this class, and nothing has changed (point 8)."""
        before = written(self.shelf)
        with self.assertRaises(ShelfError) as caught:
            getattr(self.shelf, name)(*given)
        self.assertIs(type(caught.exception), error)
        self.assertEqual(written(self.shelf), before)
        return caught.exception
