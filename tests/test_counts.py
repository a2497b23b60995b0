"""Point [2]: counts are whole numbers of at least 0, and True and False are none."""

import unittest

from runturns.counts import is_count, is_count_below
from tests.helpers import any_objects


class Counts(unittest.TestCase):
    def test_any_object(self):
        for value in any_objects():
            self.assertIs(is_count(value), type(value) is int and value >= 0, repr(value))
            self.assertIs(is_count_below(value, 2), type(value) is int and value in (0, 1), repr(value))

    def test_edges(self):
        self.assertEqual([is_count(value) for value in (-1, 0, 1, 10 ** 30)], [False, True, True, True])
        self.assertEqual([is_count_below(value, 3) for value in (-1, 0, 2, 3)], [False, True, True, False])
        self.assertEqual([is_count(True), is_count(False), is_count_below(False, 1)], [False, False, False])
