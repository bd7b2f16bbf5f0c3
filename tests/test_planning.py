import itertools
import random
import unittest

from helpers import BILLION, NO_NUMBERS, arrivals, raised, some_rows
from oilwalk.errors import InvalidNumber, UnknownPost
from oilwalk.planning import (
    fewest_stops, helpful_posts, judge_stretch, least_capacity, stops_needed, worst_stretch,
)
from oilwalk.ways import Way


def example():
    return Way(5, (2, 3), (4, 2), (1, 2))


def small_ways():
    """Capacities and posts: of 1 to 3 posts all of small numbers, of more posts some."""
    pairs = [(oil, steps) for oil in range(4) for steps in range(1, 4)]
    found = [(2, rows) for rows in itertools.product(pairs, repeat=1)]
    found.extend((3, rows) for rows in itertools.product(pairs, repeat=2))
    pairs = [(oil, steps) for oil in (0, 1, 3) for steps in (1, 2)]
    found.extend((9, rows) for rows in itertools.product(pairs, repeat=3))
    found.extend(some_rows(31, 400, 6, 5, 4, 9))
    found.extend(some_rows(32, 120, 12, 6, 4, 9))
    return found


def lack(rows, post, legs):
    """What a stretch lacks, as the document says it."""
    within = [rows[(post + leg) % len(rows)][0] for leg in range(1, legs)]
    return sum(rows[(post + leg) % len(rows)][1] for leg in range(legs)) - sum(within)


def lasts(capacity, rows, post):
    """Tell whether a lantern that is full behind a post never goes out."""
    if rows[post][1] > capacity:
        return False
    left = capacity - rows[post][1]
    _, steps = arrivals(capacity, rows, (post + 1) % len(rows), left, (capacity + 3) * len(rows))
    return steps is None


def least_capacity_by_walking(rows):
    """Try the capacities one after another; more than all steps of a round cannot matter."""
    for capacity in range(1, sum(steps for _, steps in rows) + 1):
        if all(lasts(capacity, rows, post) for post in range(len(rows))):
            return capacity
    return None


def goes_with(capacity, rows, post, oil, legs, stops):
    """Walk with these stops only; tell whether the lantern does not go out."""
    for leg in range(legs):
        there, steps = rows[(post + leg) % len(rows)]
        if leg in stops:
            oil = min(capacity, oil + there)
        oil -= steps
        if oil < 0:
            return False
    return True


def fewest_by_trying(capacity, rows, post, oil, legs):
    """Try all choices of stops, those of few stops first."""
    for many in range(legs + 1):
        for stops in itertools.combinations(range(legs), many):
            if goes_with(capacity, rows, post, oil, legs, stops):
                return many
    return None


class InterfaceExamples(unittest.TestCase):
    def test_capacities(self):
        way = Way(5, (2, 3), (4, 2), (1, 2))
        found = [judge_stretch(way, 1, 2), worst_stretch(way), least_capacity(way), least_capacity(Way(5, (1, 2)))]
        self.assertEqual(found, [3, (1, 3, 4), 4, None])

    def test_helpful_posts(self):
        way = Way(5, (2, 3), (4, 2), (1, 2))
        self.assertEqual(helpful_posts(way), [0, 2])

    def test_stops(self):
        way = Way(5, (2, 3), (4, 2), (1, 2))
        self.assertEqual([fewest_stops(way, 0, 5, 3), stops_needed(way, 0, 5, 3), fewest_stops(way, 0, 0, 1)],
                         [1, [1], None])

    def test_too_many_legs(self):
        raised(InvalidNumber, fewest_stops, example(), 0, 5, 61)


class Judging(unittest.TestCase):
    def test_one_leg_lacks_its_steps(self):
        self.assertEqual([judge_stretch(example(), post, 1) for post in range(3)], [3, 2, 2])

    def test_the_oil_at_the_first_post_does_not_count(self):
        self.assertEqual(judge_stretch(Way(5, (9, 3), (0, 4)), 0, 2), 7)
        self.assertEqual(judge_stretch(Way(5, (9, 3), (2, 4)), 0, 2), 5)

    def test_the_first_post_counts_when_it_comes_again(self):
        self.assertEqual([judge_stretch(Way(5, (1, 3)), 0, legs) for legs in (1, 2, 3, 12)], [3, 5, 7, 25])
        self.assertEqual(judge_stretch(Way(5, (3, 3)), 0, 12), 3)
        self.assertEqual(judge_stretch(Way(5, (0, 3), (2, 1)), 0, 12), 3 + 5 * 2)

    def test_shorter_stretches_count(self):
        way = Way(5, (0, 3), (9, 1), (0, 2))
        self.assertEqual([judge_stretch(way, 0, legs) for legs in (1, 2, 3)], [3, 3, 3])

    def test_against_the_lacks(self):
        for capacity, rows in small_ways():
            way = Way(capacity, *rows)
            for post in range(len(rows)):
                for legs in (1, 2, len(rows), 12):
                    lacks = [lack(rows, post, some) for some in range(1, legs + 1)]
                    self.assertEqual(judge_stretch(way, post, legs), max(lacks))

    def test_so_much_oil_is_needed_behind_the_post(self):
        for capacity, rows in some_rows(33, 150, 6, 5, 4, 9):
            way = Way(capacity, *rows)
            for post in range(len(rows)):
                for legs in (1, 3, 12):
                    needed = judge_stretch(way, post, legs)
                    turned = [(0, rows[post][1])] + [rows[(post + leg) % len(rows)] for leg in range(1, legs)]
                    for oil in range(needed + 2):
                        _, steps = arrivals(10 ** 6, turned, 0, oil, legs)
                        self.assertIs(steps is None, oil >= needed)

    def test_the_capacity_does_not_matter(self):
        for capacity in (1, 2, 5, BILLION):
            way = example().with_capacity(capacity)
            self.assertEqual([judge_stretch(way, 1, 12), worst_stretch(way), least_capacity(way)], [4, (1, 3, 4), 4])
            self.assertEqual(helpful_posts(way), [0, 2])

    def test_great_numbers(self):
        way = Way.even(1, 12, 0, BILLION)
        self.assertEqual(judge_stretch(way, 7, 12), 12 * BILLION)
        self.assertEqual(worst_stretch(way), (0, 12, 12 * BILLION))

    def test_unknown_posts(self):
        for post in (*NO_NUMBERS, -1, 3, 10 ** 20):
            with self.subTest(repr(post)):
                raised(UnknownPost, judge_stretch, example(), post, 2)
                raised(UnknownPost, judge_stretch, example(), post, 0)

    def test_wrong_legs(self):
        for legs in (*NO_NUMBERS, 0, -1, 13, 10 ** 20):
            with self.subTest(repr(legs)):
                raised(InvalidNumber, judge_stretch, example(), 2, legs)
        self.assertEqual(judge_stretch(example(), 2, 12), 3)


class WorstStretches(unittest.TestCase):
    def test_kinds_of_values(self):
        self.assertIsInstance(worst_stretch(example()), tuple)

    def test_at_most_as_many_legs_as_posts(self):
        self.assertEqual(worst_stretch(Way(5, (1, 2))), (0, 1, 2))
        self.assertEqual(worst_stretch(Way(5, (0, 1), (0, 1))), (0, 2, 2))

    def test_of_several_the_fewest_legs(self):
        self.assertEqual(worst_stretch(Way(5, (9, 1), (1, 1), (9, 1))), (0, 1, 1))
        self.assertEqual(worst_stretch(Way(5, (9, 1), (0, 2), (9, 3))), (2, 1, 3))

    def test_of_several_the_least_post(self):
        self.assertEqual(worst_stretch(Way(5, (9, 1), (9, 3), (9, 3), (9, 2))), (1, 1, 3))
        self.assertEqual(worst_stretch(Way(5, (9, 2), (0, 2), (9, 2), (0, 2))), (0, 2, 4))

    def test_against_all_stretches(self):
        for capacity, rows in small_ways():
            many = len(rows)
            told = [(-lack(rows, post, legs), legs, post) for legs in range(1, many + 1) for post in range(many)]
            most, legs, post = min(told)
            self.assertEqual(worst_stretch(Way(capacity, *rows)), (post, legs, -most))


class LeastCapacities(unittest.TestCase):
    def test_surplus_below_0_at_0_and_above(self):
        self.assertIsNone(least_capacity(Way(5, (2, 2), (0, 1))))
        self.assertEqual(least_capacity(Way(5, (3, 2), (0, 1))), 3)
        self.assertEqual(least_capacity(Way(5, (4, 2), (0, 1))), 3)
        self.assertIsNone(least_capacity(Way(BILLION, (BILLION - 1, BILLION))))
        self.assertEqual(least_capacity(Way(1, (BILLION, BILLION))), BILLION)

    def test_against_full_lanterns(self):
        for capacity, rows in small_ways():
            self.assertEqual(least_capacity(Way(capacity, *rows)), least_capacity_by_walking(rows))

    def test_every_greater_capacity_is_enough(self):
        for capacity, rows in some_rows(34, 200, 5, 6, 3, 9):
            least = least_capacity(Way(capacity, *rows))
            if least is not None:
                for more in range(3):
                    self.assertTrue(all(lasts(least + more, rows, post) for post in range(len(rows))))

    def test_greater_than_any_lantern(self):
        way = Way(1, (BILLION, 600000000), (0, 600000000), (200000000, 1))
        self.assertIsNone(least_capacity(way))
        self.assertEqual(least_capacity(way.with_post(2, 200000001, 1)), 1200000000)


class HelpfulPosts(unittest.TestCase):
    def test_none_if_there_is_no_least_capacity(self):
        self.assertEqual(helpful_posts(Way(5, (1, 2))), [])
        self.assertEqual(helpful_posts(Way(5, (0, 2), (3, 2))), [])
        self.assertEqual(helpful_posts(Way(5, (0, 2), (4, 2))), [0])

    def test_no_post_helps(self):
        self.assertEqual(helpful_posts(Way(5, (3, 3))), [])
        self.assertEqual(helpful_posts(Way(5, (9, 2), (0, 2), (9, 2), (0, 2))), [])

    def test_a_stretch_without_a_post_within(self):
        self.assertEqual(helpful_posts(Way(5, (9, 4), (9, 1), (0, 2))), [])

    def test_against_ways_with_one_unit_more(self):
        for capacity, rows in small_ways():
            least = least_capacity_by_walking(rows)
            told = []
            for post, (oil, steps) in enumerate(rows):
                more = rows[:post] + ((oil + 1, steps),) + rows[post + 1:]
                if least is not None and least_capacity_by_walking(more) < least:
                    told.append(post)
            self.assertEqual(helpful_posts(Way(capacity, *rows)), told)

    def test_a_post_with_as_much_oil_as_can_be(self):
        rows = [(BILLION, BILLION), (0, BILLION), (BILLION, BILLION), (0, BILLION)] + [(BILLION, 1)] * 8
        way = Way(5, *rows)
        self.assertEqual(worst_stretch(way), (0, 4, 3 * BILLION))
        self.assertEqual(helpful_posts(way), [1, 2, 3])

    def test_the_list_may_be_modified(self):
        way = example()
        found = helpful_posts(way)
        self.assertIsInstance(found, list)
        found.append(7)
        self.assertEqual(helpful_posts(way), [0, 2])
        self.assertEqual(way, example())


class Stops(unittest.TestCase):
    def test_no_stop_is_needed(self):
        self.assertEqual(fewest_stops(Way(9, (0, 3)), 0, 9, 3), 0)
        self.assertEqual(stops_needed(Way(9, (0, 3)), 0, 9, 3), [])
        self.assertIsNone(fewest_stops(Way(9, (0, 3)), 0, 9, 4))
        self.assertIsNone(stops_needed(Way(9, (0, 3)), 0, 8, 3))

    def test_as_much_as_fits(self):
        way = Way(5, (9, 3), (1, 2), (9, 3))
        self.assertEqual([stops_needed(way, 0, 3, 3), stops_needed(way, 0, 5, 3)], [[0, 2], [2]])
        self.assertIsNone(stops_needed(Way(5, (9, 3), (0, 3), (9, 3)), 0, 5, 3))
        self.assertEqual(stops_needed(Way(6, (9, 3), (0, 3), (9, 3)), 0, 5, 3), [0, 2])

    def test_a_late_stop_takes_more(self):
        way = Way(4, (4, 1), (0, 1), (4, 1), (0, 1), (0, 1), (0, 1))
        self.assertEqual(stops_needed(way, 0, 4, 6), [2])
        self.assertEqual(stops_needed(way, 0, 0, 6), [0, 2])

    def test_all_stops_are_needed(self):
        way = Way(5, (2, 2))
        self.assertEqual(stops_needed(way, 0, 0, 60), list(range(60)))
        self.assertEqual(fewest_stops(way, 0, 1, 60), 60)
        self.assertEqual(fewest_stops(way, 0, 2, 60), 59)

    def test_kinds_of_values(self):
        found = stops_needed(example(), 0, 5, 3)
        self.assertIsInstance(found, list)
        found.append(7)
        self.assertEqual(stops_needed(example(), 0, 5, 3), [1])

    def test_against_all_choices(self):
        told = random.Random(35)
        ways = some_rows(36, 400, 6, 5, 4, 9) + some_rows(37, 200, 4, 6, 3, 6)
        seen = {}
        for capacity, rows in ways:
            post = told.randrange(len(rows))
            oil = told.randint(0, capacity)
            legs = told.randint(1, 9)
            way = Way(capacity, *rows)
            many = fewest_by_trying(capacity, rows, post, oil, legs)
            seen[many] = True
            self.assertEqual(fewest_stops(way, post, oil, legs), many)
            self.check_stops(stops_needed(way, post, oil, legs), many, (capacity, rows, post, oil, legs))
        for many in (None, 0, 1, 2, 3, 4):
            self.assertIn(many, seen)

    def check_stops(self, stops, many, told):
        if many is None:
            self.assertIsNone(stops)
            return
        self.assertEqual(len(stops), many)
        self.assertEqual(stops, sorted(set(stops)))
        self.assertTrue(all(0 <= stop < told[4] for stop in stops))
        self.assertTrue(goes_with(*told, stops))

    def test_none_if_the_lantern_goes_out_anyway(self):
        for capacity, rows in some_rows(38, 300, 7, 5, 4, 9):
            way = Way(capacity, *rows)
            for legs in (1, 5, 60):
                _, steps = arrivals(capacity, rows, 0, capacity // 2, legs)
                self.assertIs(fewest_stops(way, 0, capacity // 2, legs) is None, steps is not None)

    def test_many_legs_are_walked_with_the_stops(self):
        for capacity, rows in some_rows(39, 200, 12, 8, 3, 30):
            way = Way(capacity, *rows)
            stops = stops_needed(way, 0, capacity, 60)
            many = fewest_stops(way, 0, capacity, 60)
            self.check_stops(stops, many, (capacity, rows, 0, capacity, 60))

    def test_great_numbers(self):
        way = Way(BILLION, (BILLION, BILLION - 1), (0, 1), (BILLION, 7))
        self.assertEqual(stops_needed(way, 0, 0, 3), [0, 2])
        self.assertEqual(stops_needed(way, 0, BILLION, 3), [2])
        self.assertEqual(stops_needed(way, 0, BILLION, 2), [])

    def test_unknown_posts(self):
        for post in (*NO_NUMBERS, -1, 3, 10 ** 20):
            for call in (fewest_stops, stops_needed):
                with self.subTest(call.__name__, post=repr(post)):
                    raised(UnknownPost, call, example(), post, 2, 3)
                    raised(UnknownPost, call, example(), post, 6, 0)

    def test_wrong_oil(self):
        for oil in (*NO_NUMBERS, -1, 6, 10 ** 20):
            for call in (fewest_stops, stops_needed):
                with self.subTest(call.__name__, oil=repr(oil)):
                    raised(InvalidNumber, call, example(), 2, oil, 3)
        for call in (fewest_stops, stops_needed):
            raised(InvalidNumber, call, Way(BILLION, (1, 1)), 0, BILLION + 1, 1)
            call(Way(BILLION, (1, 1)), 0, BILLION, 1)
            call(Way(BILLION, (1, 1)), 0, 0, 1)

    def test_wrong_legs(self):
        for legs in (*NO_NUMBERS, 0, -1, 61, 10 ** 20):
            for call in (fewest_stops, stops_needed):
                with self.subTest(call.__name__, legs=repr(legs)):
                    raised(InvalidNumber, call, example(), 2, 5, legs)
                    raised(InvalidNumber, call, example(), 2, 0, legs)
        self.assertEqual(fewest_stops(Way(60, (0, 1)), 0, 60, 60), 0)
        self.assertEqual(fewest_stops(Way(60, (0, 1)), 0, 1, 1), 0)


if __name__ == "__main__":
    unittest.main()
