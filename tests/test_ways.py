import random
import unittest

from helpers import NO_NUMBERS, numbers, raised, walk
from oilwalk.errors import InvalidNumber, InvalidWay, UnknownPost
from oilwalk.stretches import Stretch
from oilwalk.ways import Way

GREAT = 10 ** 18
BILLION = 10 ** 9
ROWS = ((2, 3), (4, 2), (1, 2))


def example():
    return Way(5, *ROWS)


def wrong(call, *arguments):
    caught = raised(InvalidWay, call, *arguments)
    return (caught.part, caught.index)


def some_ways():
    """Ways of all numbers of posts, with barred legs, gains and losses."""
    told = random.Random(11)
    found = []
    for at in range(400):
        rows = [(told.randrange(7), told.randrange(1, 7)) for _ in range(at % 12 + 1)]
        found.append(Way(told.randrange(1, 11), *rows))
    for capacity in range(1, 6):
        for oil in range(4):
            found.extend(Way(capacity, (oil, steps)) for steps in range(1, 4))
    return found


class InterfaceExamples(unittest.TestCase):
    def test_way(self):
        way = Way(5, (2, 3), (4, 2), (1, 2))
        found = [len(way), way[1], way.surplus, (way >> 1).posts, (~way).posts]
        told = [3, (4, 2), 0, ((4, 2), (1, 2), (2, 3)), ((2, 2), (1, 2), (4, 3))]
        self.assertEqual(found, told)

    def test_no_steps(self):
        self.assertEqual(wrong(Way, 5, (2, 0)), ("posts", 0))

    def test_unknown_post(self):
        raised(UnknownPost, lambda: example()[3])

    def test_even(self):
        self.assertEqual(Way.even(5, 2, 1, 3).posts, ((1, 3), (1, 3)))

    def test_with_post_and_with_capacity(self):
        way = Way(5, (2, 3), (4, 2), (1, 2))
        self.assertEqual([way.with_post(0, 9, 8)[0], way.with_capacity(7).capacity], [(9, 8), 7])

    def test_stretch(self):
        way = Way(5, (2, 3), (4, 2), (1, 2))
        found = way.stretch(0, 3)
        told = [found.need, found.gain, found.top, way.stretch(0, 3 * 10 ** 17) == found]
        self.assertEqual(told, [1, 0, 2, True])


class MakingWays(unittest.TestCase):
    def test_properties(self):
        way = example()
        self.assertEqual((way.capacity, way.posts, way.surplus), (5, ROWS, 0))
        self.assertIsInstance(way.posts, tuple)
        self.assertEqual(Way(5, (2, 3), (9, 1)).surplus, 7)
        self.assertEqual(Way(5, (2, 3), (0, 1)).surplus, -2)
        self.assertEqual(Way.even(1, 12, 0, BILLION).surplus, -12 * BILLION)

    def test_limits_of_the_capacity(self):
        for capacity in (1, BILLION):
            self.assertEqual(Way(capacity, (0, 1)).capacity, capacity)
        for capacity in (*NO_NUMBERS, 0, -1, BILLION + 1):
            with self.subTest(repr(capacity)):
                self.assertEqual(wrong(Way, capacity, (0, 1)), ("capacity", 0))

    def test_limits_of_the_oil(self):
        for oil in (0, BILLION):
            self.assertEqual(Way(1, (oil, 1)).posts, ((oil, 1),))
        for oil in (*NO_NUMBERS, -1, BILLION + 1):
            with self.subTest(repr(oil)):
                self.assertEqual(wrong(Way, 1, (0, 1), (oil, 1)), ("posts", 1))

    def test_limits_of_the_steps(self):
        for steps in (1, BILLION):
            self.assertEqual(Way(1, (0, steps)).posts, ((0, steps),))
        for steps in (*NO_NUMBERS, 0, -1, BILLION + 1):
            with self.subTest(repr(steps)):
                self.assertEqual(wrong(Way, 1, (0, 1), (0, 1), (0, steps)), ("posts", 2))

    def test_posts_are_tuples_of_two(self):
        for post in ((), (1,), (1, 1, 1), [1, 1], [], "11", "", None, True, False, 1, 0, ((1, 1),), {1: 1, 2: 1}):
            with self.subTest(repr(post)):
                self.assertEqual(wrong(Way, 1, (0, 1), post, (0, 1)), ("posts", 1))

    def test_numbers_of_posts(self):
        post = (3, 2)
        self.assertEqual(wrong(Way, 1), ("posts", 0))
        self.assertEqual(Way(1, post).posts, (post,))
        self.assertEqual(Way(1, *[post] * 12).posts, (post,) * 12)
        self.assertEqual(wrong(Way, 1, *[post] * 13), ("posts", 12))
        self.assertEqual(wrong(Way, 1, *[post] * 40), ("posts", 12))

    def test_the_first_wrong_post_is_told(self):
        post = (3, 2)
        self.assertEqual(wrong(Way, 1, post, (1, 0), (-1, 1)), ("posts", 1))
        self.assertEqual(wrong(Way, 1, *[post] * 11, None), ("posts", 11))
        self.assertEqual(wrong(Way, 1, *[post] * 5, None, *[post] * 9), ("posts", 5))
        self.assertEqual(wrong(Way, 1, *[post] * 12, None), ("posts", 12))
        self.assertEqual(wrong(Way, 1, *[post] * 13, None), ("posts", 12))

    def test_the_capacity_is_checked_first(self):
        self.assertEqual(wrong(Way, 0), ("capacity", 0))
        self.assertEqual(wrong(Way, "5", (1, 0)), ("capacity", 0))
        self.assertEqual(wrong(Way, True, *[(1, 1)] * 13), ("capacity", 0))

    def test_lists_are_neither_modified_nor_kept(self):
        rows = [(2, 3), (4, 2)]
        way = Way(5, *rows)
        rows.append((1, 1))
        self.assertEqual(way.posts, ((2, 3), (4, 2)))
        bad = [2, 3]
        self.assertEqual(wrong(Way, 5, bad), ("posts", 0))
        self.assertEqual(bad, [2, 3])

    def test_ways_never_change(self):
        way = example()
        for name in ("capacity", "posts", "surplus"):
            with self.subTest(name), self.assertRaises(AttributeError):
                setattr(way, name, 1)
        with self.assertRaises(TypeError):
            way[0] = (1, 1)
        way >> 1
        ~way
        way.with_post(0, 9, 9)
        way.with_capacity(9)
        way.stretch(1, 5)
        raised(InvalidWay, way.with_post, 0, -1, 1)
        raised(InvalidWay, way.with_capacity, 0)
        raised(InvalidNumber, lambda: way >> 3)
        same = way
        way >>= 1
        self.assertEqual((same.capacity, same.posts), (5, ROWS))


class EvenWays(unittest.TestCase):
    def test_all_counts(self):
        for count in range(1, 13):
            way = Way.even(7, count, 4, 3)
            self.assertIsInstance(way, Way)
            self.assertEqual((way.capacity, way.posts), (7, ((4, 3),) * count))

    def test_wrong_count(self):
        for count in (*NO_NUMBERS, 0, -1, 13):
            with self.subTest(repr(count)):
                raised(InvalidNumber, Way.even, 7, count, 4, 3)

    def test_wrong_way(self):
        self.assertEqual(wrong(Way.even, 0, 2, 4, 3), ("capacity", 0))
        self.assertEqual(wrong(Way.even, BILLION + 1, 2, 4, 3), ("capacity", 0))
        self.assertEqual(wrong(Way.even, 7, 2, -1, 3), ("posts", 0))
        self.assertEqual(wrong(Way.even, 7, 2, 4, 0), ("posts", 0))
        self.assertEqual(wrong(Way.even, 7, 12, None, 0), ("posts", 0))
        self.assertEqual(wrong(Way.even, "7", 2, -1, 0), ("capacity", 0))

    def test_the_count_is_checked_first(self):
        raised(InvalidNumber, Way.even, 0, 0, 4, 3)
        raised(InvalidNumber, Way.even, None, 13, -1, 0)
        raised(InvalidNumber, Way.even, 7, True, -1, 0)


class PostsOfWays(unittest.TestCase):
    def test_len(self):
        for count in range(1, 13):
            self.assertEqual(len(Way.even(7, count, 4, 3)), count)

    def test_posts_by_number(self):
        way = example()
        self.assertEqual([way[0], way[1], way[2]], [(2, 3), (4, 2), (1, 2)])

    def test_unknown_posts(self):
        way = example()
        for post in (*NO_NUMBERS, -1, -3, 3, 10 ** 30):
            with self.subTest(repr(post)):
                raised(UnknownPost, lambda: way[post])

    def test_loops_raise_type_error(self):
        way = example()
        for loop in (list, tuple, set, sorted, enumerate, iter, lambda told: [*told], lambda told: [p for p in told]):
            with self.assertRaises(TypeError):
                loop(way)
        with self.assertRaises(TypeError):
            for _ in way:
                pass
        with self.assertRaises(TypeError):
            (2, 3) in way
        with self.assertRaises(TypeError):
            _, _, _ = way


class TurningWays(unittest.TestCase):
    def test_another_first_post(self):
        way = example()
        self.assertEqual((way >> 0).posts, ROWS)
        self.assertEqual((way >> 1).posts, ((4, 2), (1, 2), (2, 3)))
        self.assertEqual((way >> 2).posts, ((1, 2), (2, 3), (4, 2)))
        self.assertEqual((way >> 2).capacity, 5)
        self.assertEqual((Way(9, (1, 2)) >> 0), Way(9, (1, 2)))

    def test_all_first_posts_are_numbered(self):
        for way in some_ways():
            for first in range(len(way)):
                turned = way >> first
                for post in range(len(way)):
                    self.assertEqual(turned[post], way[(first + post) % len(way)])

    def test_wrong_first_posts(self):
        way = example()
        for posts in (*NO_NUMBERS, -1, 3, 10 ** 20):
            with self.subTest(repr(posts)):
                raised(InvalidNumber, lambda: way >> posts)
        raised(InvalidNumber, lambda: Way(9, (1, 2)) >> 1)

    def test_the_opposite_direction(self):
        self.assertEqual((~Way(9, (1, 2))).posts, ((1, 2),))
        self.assertEqual((~Way(9, (1, 2), (3, 4))).posts, ((1, 4), (3, 2)))
        found = ~Way(9, (1, 10), (2, 20), (3, 30), (4, 40))
        self.assertEqual(found.posts, ((1, 40), (4, 30), (3, 20), (2, 10)))
        self.assertEqual(found.capacity, 9)

    def test_oil_and_legs_in_the_opposite_direction(self):
        for way in some_ways():
            back = ~way
            many = len(way)
            for post in range(many):
                self.assertEqual(back[post][0], way[-post % many][0])
                self.assertEqual(back[post][1], way[(-post - 1) % many][1])
            self.assertEqual(~back, way)
            self.assertEqual(back.surplus, way.surplus)


class ComparingWays(unittest.TestCase):
    def test_capacities_and_posts_count(self):
        self.assertTrue(example() == example())
        self.assertFalse(example() != example())
        self.assertFalse(example() == Way(6, *ROWS))
        self.assertFalse(example() == Way(5, *ROWS[:2]))
        self.assertFalse(example() == example() >> 1)
        self.assertFalse(example() == example().with_post(2, 1, 3))
        self.assertTrue(example() != Way(6, *ROWS))
        self.assertTrue(example() >> 1 == Way(5, (4, 2), (1, 2), (2, 3)))

    def test_nothing_else_is_equal(self):
        way = example()
        for value in (*NO_NUMBERS, 5, (5, ROWS), (5, *ROWS), ROWS, list(ROWS), way.stretch(0, 1)):
            with self.subTest(repr(value)):
                self.assertIs(way == value, False)
                self.assertIs(value == way, False)


class ChangedWays(unittest.TestCase):
    def test_with_post(self):
        way = example()
        self.assertEqual(way.with_post(0, 9, 8), Way(5, (9, 8), (4, 2), (1, 2)))
        self.assertEqual(way.with_post(1, 0, 1), Way(5, (2, 3), (0, 1), (1, 2)))
        self.assertEqual(way.with_post(2, BILLION, BILLION), Way(5, (2, 3), (4, 2), (BILLION, BILLION)))
        self.assertEqual(way.with_post(1, 4, 2), way)

    def test_with_post_of_an_unknown_post(self):
        for post in (*NO_NUMBERS, -1, 3):
            with self.subTest(repr(post)):
                raised(UnknownPost, example().with_post, post, 9, 8)
                raised(UnknownPost, example().with_post, post, -1, 0)

    def test_with_post_of_wrong_numbers(self):
        for oil in (*NO_NUMBERS, -1, BILLION + 1):
            with self.subTest(repr(oil)):
                self.assertEqual(wrong(example().with_post, 1, oil, 8), ("posts", 1))
        for steps in (*NO_NUMBERS, 0, -1, BILLION + 1):
            with self.subTest(repr(steps)):
                self.assertEqual(wrong(example().with_post, 2, 9, steps), ("posts", 2))
        self.assertEqual(wrong(example().with_post, 0, None, None), ("posts", 0))

    def test_with_capacity(self):
        way = example()
        for capacity in (1, 5, 7, BILLION):
            self.assertEqual(way.with_capacity(capacity), Way(capacity, *ROWS))
        for capacity in (*NO_NUMBERS, 0, -1, BILLION + 1):
            with self.subTest(repr(capacity)):
                self.assertEqual(wrong(way.with_capacity, capacity), ("capacity", 0))


class StretchesOfWays(unittest.TestCase):
    def test_single_legs(self):
        way = example()
        self.assertEqual([numbers(way.stretch(post, 1)) for post in range(3)], [(1, -1, 2), (0, 2, 3), (1, -1, 3)])
        self.assertEqual(numbers(Way(9, (3, 3)).stretch(0, 1)), (0, 0, 6))
        self.assertEqual(numbers(Way(9, (0, 9)).stretch(0, 1)), (9, -9, 0))

    def test_more_steps_than_the_lantern_holds(self):
        self.assertEqual(numbers(Way(5, (9, 5)).stretch(0, 1)), (0, 4, 0))
        self.assertEqual(Way(5, (9, 6)).stretch(0, 1), Stretch.barred())
        way = Way(5, (1, 1), (9, 6))
        self.assertEqual(numbers(way.stretch(0, 1)), (0, 0, 4))
        self.assertEqual(way.stretch(0, 2), Stretch.barred())
        self.assertEqual(way.stretch(1, 1), Stretch.barred())

    def test_more_oil_than_the_lantern_holds(self):
        self.assertEqual(numbers(Way(5, (BILLION, 2)).stretch(0, 1)), (0, BILLION - 2, 3))

    def test_against_the_legs_one_after_another(self):
        for way in some_ways():
            for post in range(len(way)):
                total = way.stretch(post, 1)
                for legs in range(2, 2 * len(way) + 4):
                    total = total + way.stretch((post + legs - 1) % len(way), 1)
                    self.assertEqual(way.stretch(post, legs), total)

    def test_against_walking(self):
        for way in some_ways():
            for post in range(len(way)):
                for legs in (1, 2, 3, len(way), 2 * len(way) + 1, 5 * len(way)):
                    found = way.stretch(post, legs)
                    for oil in range(way.capacity + 1):
                        self.assertEqual(found(oil), walk(way.capacity, way.posts, post, oil, legs))
                    rows = [way[(post + leg) % len(way)] for leg in range(legs)]
                    if found:
                        self.assertEqual(found.gain, sum(oil - steps for oil, steps in rows))
                        self.assertEqual(found.top, walk(way.capacity, way.posts, post, way.capacity, legs))

    def test_great_numbers_of_legs(self):
        way = Way(9, (3, 2), (0, 1))
        self.assertEqual(numbers(way.stretch(0, GREAT)), (0, 0, 6))
        self.assertEqual(numbers(way.stretch(0, GREAT - 1)), (0, 1, 7))
        self.assertEqual(numbers(way.stretch(1, GREAT)), (1, 0, 7))
        self.assertEqual(numbers(Way(9, (3, 2)).stretch(0, GREAT)), (0, GREAT, 7))
        self.assertEqual(Way(BILLION, (0, 1)).stretch(0, GREAT), Stretch.barred())
        self.assertEqual(numbers(Way(BILLION, (0, 1)).stretch(0, BILLION)), (BILLION, -BILLION, 0))
        self.assertEqual(Way(BILLION, (0, 1)).stretch(0, BILLION + 1), Stretch.barred())

    def test_great_numbers_of_legs_are_split(self):
        told = random.Random(13)
        for way in some_ways():
            post = told.randrange(len(way))
            legs = told.randrange(2, GREAT + 1)
            first = told.randrange(1, legs)
            both = way.stretch(post, first) + way.stretch((post + first) % len(way), legs - first)
            self.assertEqual(way.stretch(post, legs), both)

    def test_wrong_posts(self):
        for post in (*NO_NUMBERS, -1, 3):
            with self.subTest(repr(post)):
                raised(UnknownPost, example().stretch, post, 1)
                raised(UnknownPost, example().stretch, post, 0)

    def test_wrong_legs(self):
        for legs in (*NO_NUMBERS, 0, -1, GREAT + 1):
            with self.subTest(repr(legs)):
                raised(InvalidNumber, example().stretch, 2, legs)
        self.assertTrue(example().stretch(1, GREAT))

    def test_equal_calls_return_equal_values(self):
        way = example()
        self.assertEqual(way.stretch(1, 7), way.stretch(1, 7))
        self.assertEqual([way.posts, way.surplus, len(way)], [way.posts, way.surplus, len(way)])
        self.assertEqual(~way, ~way)


if __name__ == "__main__":
    unittest.main()
