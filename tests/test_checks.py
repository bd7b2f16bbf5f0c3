import unittest

from helpers import NO_NUMBERS, raised
from oilwalk import checks
from oilwalk.errors import InvalidNumber, UnknownPost
from oilwalk.ways import Way


class Numbers(unittest.TestCase):
    def test_limits(self):
        self.assertEqual(checks.MOST_UNITS, 1_000_000_000)
        self.assertEqual(checks.MOST_TIMES, 1_000_000_000_000_000_000)

    def test_what_is_a_number(self):
        for value in (0, 1, -1, 10 ** 30):
            self.assertIs(checks.is_number(value), True)
        for value in NO_NUMBERS:
            with self.subTest(repr(value)):
                self.assertIs(checks.is_number(value), False)
                self.assertIs(checks.is_number_from(value, 0), False)
                self.assertIs(checks.is_number_within(value, 0, 9), False)
                raised(InvalidNumber, checks.check_number_from, value, 0)
                raised(InvalidNumber, checks.check_number_within, value, 0, 9)
                raised(UnknownPost, checks.check_post, value, 9)

    def test_limits_are_included(self):
        self.assertEqual([checks.is_number_from(at, 2) for at in range(4)], [False, False, True, True])
        found = [checks.is_number_within(at, 2, 3) for at in range(6)]
        self.assertEqual(found, [False, False, True, True, False, False])

    def test_checks_raise_outside_only(self):
        self.assertIsNone(checks.check_number_from(2, 2))
        raised(InvalidNumber, checks.check_number_from, 1, 2)
        self.assertIsNone(checks.check_number_within(2, 2, 2))
        raised(InvalidNumber, checks.check_number_within, 1, 2, 2)
        raised(InvalidNumber, checks.check_number_within, 3, 2, 2)

    def test_posts_are_counted_from_0(self):
        self.assertIsNone(checks.check_post(0, 3))
        self.assertIsNone(checks.check_post(2, 3))
        raised(UnknownPost, checks.check_post, 3, 3)
        raised(UnknownPost, checks.check_post, -1, 3)

    def test_starts_of_walks(self):
        way = Way(5, (1, 2), (3, 4))
        for post, oil in ((0, 0), (1, 0), (0, 5), (1, 5)):
            self.assertIsNone(checks.check_start(way, post, oil))
        raised(UnknownPost, checks.check_start, way, 2, 6)
        raised(InvalidNumber, checks.check_start, way, 1, 6)
        raised(InvalidNumber, checks.check_start, way, 1, -1)


if __name__ == "__main__":
    unittest.main()
