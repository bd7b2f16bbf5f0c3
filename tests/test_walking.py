import random
import unittest

from helpers import BILLION, GREAT, NO_NUMBERS, arrivals, raised, some_rows, walk
from oilwalk.errors import InvalidNumber, UnknownPost
from oilwalk.walking import first_unlike, goes_out, good_posts, is_endless, least_oil, oil_after, settled
from oilwalk.ways import Way


def example():
    return Way(5, (2, 3), (4, 2), (1, 2))


def small_ways():
    """Capacities and posts: of 1 and 2 posts all of small numbers, of more posts some."""
    found = []
    for capacity in range(1, 6):
        for oil in range(5):
            found.extend((capacity, ((oil, steps),)) for steps in range(1, 6))
    pairs = [(oil, steps) for oil in range(4) for steps in range(1, 4)]
    for capacity in range(1, 5):
        found.extend((capacity, (one, other)) for one in pairs for other in pairs)
    found.extend(some_rows(21, 300, 12, 6, 4, 9))
    found.extend(some_rows(22, 300, 5, 5, 4, 7))
    found.extend(with_surplus_0(some_rows(23, 300, 6, 5, 4, 8)))
    return found


def with_surplus_0(told):
    """Give the last post as much oil as makes the surplus 0, where that can be."""
    found = []
    for capacity, rows in told:
        oil = sum(steps for _, steps in rows) - sum(there for there, _ in rows[:-1])
        if oil >= 0:
            found.append((capacity, rows[:-1] + ((oil, rows[-1][1]),)))
    return found


def long_walk(capacity, rows, post, oil):
    """Walk more rounds than a lantern of this capacity can lose oil in."""
    return arrivals(capacity, rows, post, oil, (capacity + 3) * len(rows))


def starts(way_rows):
    for capacity, rows in way_rows:
        way = Way(capacity, *rows)
        for post in range(len(rows)):
            yield way, capacity, rows, post


class InterfaceExamples(unittest.TestCase):
    def test_oil_after(self):
        way = Way(5, (2, 3), (4, 2), (1, 2))
        found = [oil_after(way, 0, 1, 3), oil_after(way, 0, 0, 1), oil_after(way, 0, 2, 10 ** 18)]
        self.assertEqual(found, [1, None, 1])

    def test_oil_after_with_too_much_oil(self):
        raised(InvalidNumber, oil_after, example(), 0, 6, 1)

    def test_is_endless_and_goes_out(self):
        way = Way(5, (2, 3), (4, 2), (1, 2))
        found = [is_endless(way, 1, 0), goes_out(way, 0, 0), goes_out(way, 0, 1), goes_out(Way(5, (1, 2)), 0, 5)]
        self.assertEqual(found, [True, (0, 2), None, (4, 1)])

    def test_settled(self):
        way = Way(5, (2, 3), (4, 2), (1, 2))
        found = [settled(way, 0, 5), settled(way, 0, 1), settled(way, 0, 0), settled(Way(9, (3, 2)), 0, 0)]
        self.assertEqual(found, [(1, 2), (0, 1), None, (7, 7)])

    def test_least_oil_and_good_posts(self):
        way = Way(5, (2, 3), (4, 2), (1, 2))
        self.assertEqual([least_oil(way, 2), good_posts(way), least_oil(Way(5, (1, 2)), 0)], [2, [1], None])

    def test_first_unlike(self):
        way = Way(5, (2, 3), (4, 2), (1, 2))
        found = [first_unlike(way, way.with_post(2, 0, 2), 0, 1), first_unlike(way, way.with_capacity(9), 0, 1)]
        self.assertEqual(found, [3, None])


class ArgumentsOfWalks(unittest.TestCase):
    def calls(self, way, post, oil):
        return [
            (oil_after, way, post, oil, 3),
            (oil_after, way, post, oil, 0),
            (is_endless, way, post, oil),
            (goes_out, way, post, oil),
            (settled, way, post, oil),
            (first_unlike, way, way, post, oil),
        ]

    def test_unknown_posts(self):
        for post in (*NO_NUMBERS, -1, 3, 10 ** 20):
            for call in self.calls(example(), post, 2):
                with self.subTest(call[0].__name__, post=repr(post)):
                    raised(UnknownPost, *call)

    def test_wrong_oil(self):
        for oil in (*NO_NUMBERS, -1, 6, 10 ** 20):
            for call in self.calls(example(), 2, oil):
                with self.subTest(call[0].__name__, oil=repr(oil)):
                    raised(InvalidNumber, *call)

    def test_oil_of_0_and_of_the_capacity(self):
        for capacity in (1, 5, BILLION):
            way = Way(capacity, (1, 1))
            for oil in (0, capacity):
                for call in self.calls(way, 0, oil):
                    call[0](*call[1:])
            for oil in (-1, capacity + 1):
                for call in self.calls(way, 0, oil):
                    raised(InvalidNumber, *call)

    def test_the_post_is_checked_first(self):
        for post, oil in ((3, 6), (None, None), (True, -1), ([], [])):
            for call in self.calls(example(), post, oil):
                raised(UnknownPost, *call)

    def test_wrong_legs(self):
        for legs in (*NO_NUMBERS, -1, GREAT + 1):
            with self.subTest(repr(legs)):
                raised(InvalidNumber, oil_after, example(), 0, 1, legs)
                raised(InvalidNumber, oil_after, example(), 0, 0, legs)
                raised(UnknownPost, oil_after, example(), 3, 6, legs)
                raised(InvalidNumber, oil_after, example(), 0, 6, legs)

    def test_unknown_posts_of_least_oil(self):
        for post in (*NO_NUMBERS, -1, 3, 10 ** 20):
            with self.subTest(repr(post)):
                raised(UnknownPost, least_oil, example(), post)
                raised(UnknownPost, least_oil, Way(5, (1, 2), (1, 2), (1, 2)), post)


class OilAfter(unittest.TestCase):
    def test_no_legs(self):
        way = Way(5, (0, 9))
        self.assertEqual([oil_after(way, 0, oil, 0) for oil in range(6)], [0, 1, 2, 3, 4, 5])

    def test_a_rest_of_0_is_there_on_arrival(self):
        way = Way(9, (1, 4), (0, 1))
        self.assertEqual(oil_after(way, 0, 3, 1), 0)
        self.assertEqual(oil_after(way, 0, 2, 1), None)
        self.assertEqual(oil_after(way, 0, 3, 2), None)
        self.assertEqual(oil_after(way, 0, 4, 2), 0)

    def test_as_much_as_fits(self):
        self.assertEqual(oil_after(Way(5, (9, 2)), 0, 0, 1), 3)
        self.assertEqual(oil_after(Way(5, (9, 5)), 0, 5, 1), 0)
        self.assertEqual(oil_after(Way(5, (9, 6)), 0, 5, 1), None)
        self.assertEqual(oil_after(Way(5, (2, 1)), 0, 4, 1), 4)

    def test_against_single_legs(self):
        for way, capacity, rows, post in starts(small_ways()):
            for oil in range(capacity + 1):
                for legs in (0, 1, 2, len(rows), 2 * len(rows) + 1):
                    self.assertEqual(oil_after(way, post, oil, legs), walk(capacity, rows, post, oil, legs))

    def test_great_numbers_of_legs(self):
        way = example()
        self.assertEqual(oil_after(way, 0, 5, GREAT), oil_after(way, 0, 5, 3 + GREAT % 3))
        self.assertEqual(oil_after(way, 1, 0, GREAT), walk(5, way.posts, 1, 0, 30 + GREAT % 3))
        self.assertEqual(oil_after(Way(9, (3, 2)), 0, 0, GREAT), 7)
        self.assertEqual(oil_after(Way(BILLION, (0, 1)), 0, BILLION, BILLION), 0)
        self.assertEqual(oil_after(Way(BILLION, (0, 1)), 0, BILLION, BILLION + 1), None)
        self.assertEqual(oil_after(Way(BILLION, (5, 6)), 0, BILLION - 6, GREAT), None)
        self.assertEqual(oil_after(Way(BILLION, (BILLION, BILLION)), 0, 7, GREAT), 0)
        self.assertEqual(oil_after(Way(BILLION, (3, 2)), 0, 0, 10 ** 8), 10 ** 8)

    def test_great_numbers_against_settled_walks(self):
        told = random.Random(24)
        for capacity, rows in some_rows(25, 200, 12, 9, 4, 9):
            post = told.randrange(len(rows))
            oil = told.randint(0, capacity)
            legs = told.randrange(GREAT // 2, GREAT + 1)
            near = 20 * len(rows) + legs % len(rows)
            self.assertEqual(oil_after(Way(capacity, *rows), post, oil, legs), walk(capacity, rows, post, oil, near))


class Endless(unittest.TestCase):
    def test_surplus_below_0_at_0_and_above(self):
        self.assertIs(is_endless(Way(BILLION, (4, 5)), 0, BILLION), False)
        self.assertIs(is_endless(Way(5, (5, 5)), 0, 0), True)
        self.assertIs(is_endless(Way(5, (6, 5)), 0, 0), True)
        self.assertIs(is_endless(Way(9, (0, 2), (4, 3)), 0, 9), False)
        self.assertIs(is_endless(Way(9, (0, 2), (5, 3)), 0, 2), True)
        self.assertIs(is_endless(Way(9, (0, 2), (5, 3)), 0, 1), False)

    def test_a_walk_that_goes_out_in_the_second_round(self):
        way = Way(3, (4, 1), (0, 2), (0, 1))
        self.assertEqual([oil_after(way, 2, 3, 3), oil_after(way, 2, 3, 6)], [0, None])
        self.assertIs(is_endless(way, 2, 3), False)

    def test_against_long_walks(self):
        for way, capacity, rows, post in starts(small_ways()):
            for oil in range(capacity + 1):
                _, steps = long_walk(capacity, rows, post, oil)
                self.assertIs(is_endless(way, post, oil), steps is None)

    def test_two_rounds_and_the_surplus_tell(self):
        for way, capacity, rows, post in starts(small_ways()):
            for oil in range(capacity + 1):
                two = walk(capacity, rows, post, oil, 2 * len(rows)) is not None
                self.assertIs(is_endless(way, post, oil), two and way.surplus >= 0)


class GoingOut(unittest.TestCase):
    def test_kinds_of_values(self):
        self.assertIsInstance(goes_out(Way(5, (1, 2)), 0, 5), tuple)
        self.assertIsNone(goes_out(Way(5, (2, 2)), 0, 0))

    def test_the_first_leg_and_no_steps(self):
        self.assertEqual(goes_out(Way(5, (0, 1)), 0, 0), (0, 0))
        self.assertEqual(goes_out(Way(5, (0, 9)), 0, 3), (0, 3))
        self.assertEqual(goes_out(Way(5, (9, 6)), 0, 3), (0, 5))
        self.assertEqual(goes_out(Way(5, (0, 1), (0, 1)), 1, 5), (5, 0))

    def test_against_long_walks(self):
        for way, capacity, rows, post in starts(small_ways()):
            for oil in range(capacity + 1):
                legs, steps = long_walk(capacity, rows, post, oil)
                told = None if steps is None else (len(legs), steps)
                self.assertEqual(goes_out(way, post, oil), told)

    def test_great_numbers(self):
        self.assertEqual(goes_out(Way(BILLION, (0, 1)), 0, BILLION), (BILLION, 0))
        self.assertEqual(goes_out(Way(BILLION, (1, 2)), 0, BILLION), (BILLION - 1, 1))
        self.assertEqual(goes_out(Way(BILLION, (BILLION, BILLION)), 0, 0), None)
        self.assertEqual(goes_out(Way(BILLION, (BILLION - 1, BILLION)), 0, BILLION), (1, BILLION - 1))
        self.assertEqual(goes_out(Way(BILLION - 1, (BILLION, BILLION)), 0, 5), (0, BILLION - 1))
        way = Way(BILLION, *[(1, 1)] * 11, (1, 2))
        self.assertEqual(goes_out(way, 0, BILLION), (12 * (BILLION - 1) + 11, 1))
        self.assertEqual(goes_out(way, 5, 0), (6, 1))

    def test_great_numbers_against_the_oil_after(self):
        told = random.Random(26)
        for _ in range(60):
            steps = [told.randint(1, 50) for _ in range(told.randint(1, 12))]
            rows = [(each, each) for each in steps]
            rows[-1] = (max(0, rows[-1][0] - told.randint(1, 3)), rows[-1][1])
            way = Way(told.randint(BILLION // 2, BILLION), *rows)
            post = told.randrange(len(rows))
            oil = told.randint(0, way.capacity)
            legs, walked = goes_out(way, post, oil)
            rest = oil_after(way, post, oil, legs)
            there, needed = way[(post + legs) % len(way)]
            self.assertEqual(walked, min(way.capacity, rest + there))
            self.assertLess(walked, needed)
            self.assertIsNone(oil_after(way, post, oil, legs + 1))


class Settling(unittest.TestCase):
    def test_kinds_of_values(self):
        self.assertIsInstance(settled(Way(5, (2, 2)), 0, 0), tuple)
        self.assertIsNone(settled(Way(5, (1, 2)), 0, 5))

    def test_without_gain(self):
        way = Way(5, (2, 2))
        self.assertEqual([settled(way, 0, oil) for oil in range(6)], [(0, 0), (0, 1), (0, 2), (0, 3), (1, 3), (1, 3)])

    def test_with_gain(self):
        way = Way(9, (5, 2))
        found = [settled(way, 0, oil) for oil in range(10)]
        told = [(3, 7), (2, 7), (2, 7), (2, 7), (1, 7), (1, 7), (1, 7), (0, 7), (1, 7), (1, 7)]
        self.assertEqual(found, told)

    def test_against_long_walks(self):
        for way, capacity, rows, post in starts(small_ways()):
            for oil in range(capacity + 1):
                self.assertEqual(settled(way, post, oil), self.settled_by_walking(capacity, rows, post, oil))

    def settled_by_walking(self, capacity, rows, post, oil):
        legs, steps = long_walk(capacity, rows, post, oil)
        if steps is not None:
            return None
        rounds = [oil] + legs[len(rows) - 1::len(rows)]
        least = len(rounds) - 1
        while least > 0 and rounds[least - 1] == rounds[-1]:
            least -= 1
        return (least, rounds[-1])

    def test_great_numbers(self):
        self.assertEqual(settled(Way(BILLION, (3, 2)), 0, 0), (BILLION - 2, BILLION - 2))
        self.assertEqual(settled(Way(BILLION, (4, 2)), 0, 1), (BILLION // 2 - 1, BILLION - 2))
        self.assertEqual(settled(Way(BILLION, (BILLION, BILLION)), 0, BILLION), (1, 0))
        self.assertEqual(settled(Way(BILLION, (BILLION, 1), (0, 1)), 1, 1), (1, BILLION - 1))
        self.assertEqual(settled(Way(BILLION, (2, 2), (2, 2)), 1, 123456789), (0, 123456789))


class LeastOil(unittest.TestCase):
    def test_surplus_below_0_at_0_and_above(self):
        self.assertEqual(least_oil(Way(9, (4, 5)), 0), None)
        self.assertEqual(least_oil(Way(9, (5, 5)), 0), 0)
        self.assertEqual(least_oil(Way(9, (6, 5)), 0), 0)
        self.assertEqual(least_oil(Way(9, (0, 2), (5, 3)), 0), 2)

    def test_a_leg_that_is_too_long(self):
        way = Way(5, (9, 6), (9, 1))
        self.assertEqual([least_oil(way, 0), least_oil(way, 1), good_posts(way)], [None, None, []])

    def test_against_long_walks(self):
        for way, capacity, rows, post in starts(small_ways()):
            endless = [oil for oil in range(capacity + 1) if long_walk(capacity, rows, post, oil)[1] is None]
            self.assertEqual(least_oil(way, post), min(endless, default=None))

    def test_great_numbers(self):
        way = Way(BILLION, (0, BILLION), (BILLION, 1), (2, 1))
        self.assertEqual([least_oil(way, post) for post in range(3)], [None, None, None])
        way = Way(BILLION, (0, BILLION - 2), (BILLION, 1), (2, 1))
        self.assertEqual([least_oil(way, post) for post in range(3)], [BILLION - 2, 0, BILLION - 3])
        self.assertEqual(good_posts(way), [1])

    def test_good_posts_against_walks_without_oil(self):
        for capacity, rows in small_ways():
            good = [post for post in range(len(rows)) if long_walk(capacity, rows, post, 0)[1] is None]
            found = good_posts(Way(capacity, *rows))
            self.assertEqual(found, good)
            self.assertIsInstance(found, list)

    def test_the_list_may_be_modified(self):
        way = example()
        good_posts(way).append(7)
        self.assertEqual(good_posts(way), [1])
        self.assertEqual(good_posts(Way.even(5, 12, 3, 3)), list(range(12)))


class FirstUnlike(unittest.TestCase):
    def test_equal_ways(self):
        self.assertIsNone(first_unlike(example(), example(), 1, 3))
        self.assertIsNone(first_unlike(Way(5, (1, 2)), Way(5, (1, 2)), 0, 5))
        self.assertIsNone(first_unlike(Way(5, (1, 2)), Way.even(5, 3, 1, 2), 0, 5))

    def test_the_first_leg(self):
        self.assertEqual(first_unlike(Way(5, (2, 2)), Way(5, (3, 2)), 0, 0), 1)
        self.assertEqual(first_unlike(Way(5, (2, 2)), Way(5, (2, 1)), 0, 0), 1)

    def test_only_one_goes_out(self):
        self.assertEqual(first_unlike(Way(5, (2, 2)), Way(5, (1, 2)), 0, 0), 1)
        self.assertEqual(first_unlike(Way(5, (1, 2)), Way(5, (2, 2)), 0, 0), 1)
        self.assertEqual(first_unlike(Way(5, (2, 2), (1, 1)), Way(5, (2, 2), (0, 1)), 0, 0), 2)
        self.assertEqual(first_unlike(Way(5, (2, 2), (0, 1)), Way(5, (2, 2), (1, 1)), 0, 0), 2)

    def test_both_go_out_on_the_same_leg(self):
        self.assertIsNone(first_unlike(Way(5, (1, 2), (9, 1)), Way(5, (0, 2), (1, 1)), 0, 0))
        self.assertIsNone(first_unlike(Way(5, (2, 2), (0, 3)), Way(7, (2, 2), (1, 2)), 0, 0))

    def test_at_most_2000_legs(self):
        for legs in (2, 1998, 1999, 2000, 2001, 2002, 5000):
            # The lanterns are unlike when the oil fits into only one of them.
            found = first_unlike(Way(legs, (2, 1)), Way(legs + 1, (2, 1)), 0, 0)
            self.assertEqual(found, legs if legs <= 2000 else None)

    def test_ways_with_other_numbers_of_posts(self):
        one = Way(20, (2, 2), (2, 2))
        other = Way(20, (2, 2), (2, 2), (2, 2), (2, 2), (3, 2))
        self.assertEqual(first_unlike(one, other, 0, 4), 5)
        self.assertEqual(first_unlike(one, other, 1, 4), 4)
        self.assertEqual(first_unlike(other, one, 1, 4), 4)

    def test_against_single_legs(self):
        told = random.Random(27)
        ways = some_rows(28, 400, 4, 4, 3, 7)
        for capacity, rows in ways:
            changed = list(rows)
            at = told.randrange(len(rows))
            changed[at] = (changed[at][0], max(1, changed[at][1] + told.choice((-1, 0, 0, 1))))
            if told.randrange(3) == 0:
                changed = changed * told.randint(1, 3)
            other = max(1, capacity + told.randint(-2, 2))
            post = told.randrange(len(rows))
            oil = told.randint(0, min(capacity, other))
            one = arrivals(capacity, rows, post, oil, 2000)[0]
            two = arrivals(other, changed, post, oil, 2000)[0]
            self.assertEqual(
                first_unlike(Way(capacity, *rows), Way(other, *changed), post, oil), self.first_difference(one, two)
            )

    def first_difference(self, one, two):
        for walked in range(max(len(one), len(two))):
            if one[walked:walked + 1] != two[walked:walked + 1]:
                return walked + 1
        return None

    def test_the_first_way_is_checked_first(self):
        small, great = Way(5, (2, 2)), Way(9, (2, 2), (2, 2))
        raised(UnknownPost, first_unlike, small, great, 1, 7)
        raised(InvalidNumber, first_unlike, small, great, 0, 7)
        raised(InvalidNumber, first_unlike, great, small, 0, 7)
        raised(InvalidNumber, first_unlike, great, small, 1, 10)
        raised(UnknownPost, first_unlike, great, small, 1, 7)
        raised(UnknownPost, first_unlike, great, small, 1, 3)
        raised(InvalidNumber, first_unlike, great, small, 0, -1)
        self.assertIsNone(first_unlike(great, small, 0, 3))


class Repeated(unittest.TestCase):
    def test_equal_calls_return_equal_values(self):
        way = example()
        for _ in range(2):
            self.assertEqual(oil_after(way, 0, 5, 7), walk(5, way.posts, 0, 5, 7))
            self.assertEqual(goes_out(way, 0, 0), (0, 2))
            self.assertEqual(settled(way, 0, 5), (1, 2))
            self.assertEqual(way, example())


if __name__ == "__main__":
    unittest.main()
