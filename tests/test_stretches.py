import itertools
import random
import unittest

from helpers import NO_NUMBERS, numbers, raised
from oilwalk.errors import InvalidNumber, InvalidStretch
from oilwalk.stretches import Stretch
from oilwalk.ways import Way

GREAT = 10 ** 18


def small_stretches():
    """All stretches with small numbers, and the barred one."""
    found = [
        Stretch(need, gain, top)
        for need, gain, top in itertools.product(range(4), range(-3, 3), range(5))
        if need + gain >= 0
    ]
    return [*found, Stretch.barred()]


def walked(stretch, oil):
    """What point 2 says of the oil, by the three numbers alone."""
    if oil is None or stretch.need is None or oil < stretch.need:
        return None
    return min(stretch.top, oil + stretch.gain)


def walked_times(stretch, oil, times):
    for _ in range(times):
        oil = walked(stretch, oil)
    return oil


class InterfaceExamples(unittest.TestCase):
    def test_both(self):
        both = Stretch(1, -1, 2) + Stretch(0, 2, 3)
        found = [both.need, both.gain, both.top, both(0), both(5), (both * 10 ** 18).gain]
        self.assertEqual(found, [1, 1, 3, None, 3, 1000000000000000000])

    def test_invalid_gain(self):
        self.assertEqual(raised(InvalidStretch, Stretch, 1, -2, 2).part, "gain")

    def test_barred(self):
        found = [bool(Stretch.barred()), (Stretch(0, 0, 1) + Stretch(2, 0, 5)) == Stretch.barred()]
        self.assertEqual(found, [False, True])


class MakingStretches(unittest.TestCase):
    def part(self, *told):
        return raised(InvalidStretch, Stretch, *told).part

    def test_properties(self):
        self.assertEqual(numbers(Stretch(3, -2, 5)), (3, -2, 5))
        self.assertEqual(numbers(Stretch(need=3, gain=-2, top=5)), (3, -2, 5))
        self.assertEqual(numbers(Stretch(0, 0, 0)), (0, 0, 0))

    def test_numbers_have_no_upper_limit(self):
        great = 10 ** 40
        self.assertEqual(numbers(Stretch(great, great, great)), (great, great, great))
        self.assertEqual(numbers(Stretch(great, -great, great)), (great, -great, great))

    def test_no_need_leaves_no_gain_and_no_top(self):
        for gain, top in ((0, 0), (7, 9), (-7, 9), (-(10 ** 20), 10 ** 20)):
            with self.subTest(gain=gain, top=top):
                self.assertEqual(numbers(Stretch(None, gain, top)), (None, 0, 0))

    def test_no_need_does_not_make_wrong_numbers_right(self):
        self.assertEqual(self.part(None, "1", 0), "gain")
        self.assertEqual(self.part(None, None, 0), "gain")
        self.assertEqual(self.part(None, True, 0), "gain")
        self.assertEqual(self.part(None, 0, -1), "top")
        self.assertEqual(self.part(None, 0, None), "top")
        self.assertEqual(self.part(None, 0, False), "top")

    def test_wrong_need(self):
        self.assertEqual(self.part(-1, 5, 5), "need")
        for value in NO_NUMBERS:
            if value is not None:
                with self.subTest(repr(value)):
                    self.assertEqual(self.part(value, 5, 5), "need")

    def test_wrong_gain(self):
        for value in NO_NUMBERS:
            with self.subTest(repr(value)):
                self.assertEqual(self.part(5, value, 5), "gain")

    def test_need_plus_gain_is_at_least_0(self):
        self.assertEqual(numbers(Stretch(4, -4, 5)), (4, -4, 5))
        self.assertEqual(self.part(4, -5, 5), "gain")
        self.assertEqual(numbers(Stretch(0, 0, 5)), (0, 0, 5))
        self.assertEqual(self.part(0, -1, 5), "gain")

    def test_wrong_top(self):
        self.assertEqual(self.part(1, 1, -1), "top")
        for value in NO_NUMBERS:
            with self.subTest(repr(value)):
                self.assertEqual(self.part(1, 1, value), "top")

    def test_a_top_may_be_less_than_need_and_gain(self):
        self.assertEqual(numbers(Stretch(5, 3, 0)), (5, 3, 0))

    def test_parts_are_checked_from_left_to_right(self):
        self.assertEqual(self.part(-1, None, -1), "need")
        self.assertEqual(self.part("1", 0, 0), "need")
        self.assertEqual(self.part(1, -2, -1), "gain")
        self.assertEqual(self.part(1, [], "2"), "gain")

    def test_barred(self):
        self.assertEqual(numbers(Stretch.barred()), (None, 0, 0))
        self.assertIsInstance(Stretch.barred(), Stretch)

    def test_lists_are_neither_modified_nor_kept(self):
        told = [1, 2]
        raised(InvalidStretch, Stretch, told, told, told)
        raised(InvalidNumber, Stretch(0, 0, 0), told)
        raised(InvalidNumber, lambda: Stretch(0, 0, 0) * told)
        self.assertEqual(told, [1, 2])

    def test_stretches_never_change(self):
        one = Stretch(3, -2, 5)
        for name in ("need", "gain", "top"):
            with self.subTest(name), self.assertRaises(AttributeError):
                setattr(one, name, 1)
        same = one
        other = Stretch(0, 2, 3)
        self.assertEqual(one(4), 2)
        raised(InvalidNumber, one, -1)
        one + other
        one * 7
        one += other
        self.assertEqual(numbers(same), (3, -2, 5))
        self.assertEqual(numbers(other), (0, 2, 3))
        same *= 2
        self.assertEqual(numbers(Stretch(3, -2, 5)), (3, -2, 5))


class WalkingStretches(unittest.TestCase):
    def test_oil_behind_a_stretch(self):
        stretch = Stretch(2, -1, 3)
        self.assertEqual([stretch(oil) for oil in range(7)], [None, None, 1, 2, 3, 3, 3])
        stretch = Stretch(0, 2, 4)
        self.assertEqual([stretch(oil) for oil in range(5)], [2, 3, 4, 4, 4])

    def test_all_small_ones(self):
        for stretch in small_stretches():
            for oil in range(9):
                self.assertEqual(stretch(oil), walked(stretch, oil))

    def test_great_oil(self):
        self.assertEqual(Stretch(0, 0, 10 ** 30)(10 ** 20), 10 ** 20)
        self.assertEqual(Stretch(10 ** 20, -1, 10 ** 30)(10 ** 20), 10 ** 20 - 1)
        self.assertIsNone(Stretch(10 ** 20, -1, 10 ** 30)(10 ** 20 - 1))

    def test_barred_with_any_oil(self):
        for oil in (0, 1, 10 ** 9, 10 ** 30):
            self.assertIsNone(Stretch.barred()(oil))

    def test_wrong_oil(self):
        for stretch in (Stretch(0, 0, 5), Stretch(2, -2, 5), Stretch.barred()):
            raised(InvalidNumber, stretch, -1)
            for value in NO_NUMBERS:
                with self.subTest(repr(value)):
                    raised(InvalidNumber, stretch, value)

    def test_truth(self):
        self.assertIs(bool(Stretch(0, 0, 0)), True)
        self.assertIs(bool(Stretch(4, -4, 0)), True)
        self.assertIs(bool(Stretch.barred()), False)
        self.assertIs(bool(Stretch(None, 7, 7)), False)

    def test_equal_calls_return_equal_values(self):
        stretch = Stretch(1, -1, 2)
        self.assertEqual([stretch(1), stretch(2), stretch(1)], [0, 1, 0])
        self.assertEqual(stretch + stretch, stretch + stretch)
        self.assertEqual(stretch * 2, stretch * 2)
        self.assertEqual(Stretch.barred(), Stretch.barred())


class ComparingStretches(unittest.TestCase):
    def test_all_three_numbers_count(self):
        self.assertTrue(Stretch(3, -2, 5) == Stretch(3, -2, 5))
        self.assertFalse(Stretch(3, -2, 5) == Stretch(2, -2, 5))
        self.assertFalse(Stretch(3, -2, 5) == Stretch(3, -1, 5))
        self.assertFalse(Stretch(3, -2, 5) == Stretch(3, -2, 4))
        self.assertFalse(Stretch(3, -2, 5) != Stretch(3, -2, 5))
        self.assertTrue(Stretch(3, -2, 5) != Stretch(3, -2, 4))

    def test_barred_ones(self):
        self.assertTrue(Stretch(None, 4, 4) == Stretch.barred())
        self.assertFalse(Stretch(0, 0, 0) == Stretch.barred())
        self.assertFalse(Stretch.barred() == Stretch(0, 0, 0))

    def test_nothing_else_is_equal(self):
        for value in (*NO_NUMBERS, 0, 3, (3, -2, 5), [3, -2, 5], "Stretch(3, -2, 5)", Way(5, (3, 2))):
            with self.subTest(repr(value)):
                self.assertIs(Stretch(3, -2, 5) == value, False)
                self.assertIs(value == Stretch(3, -2, 5), False)
        self.assertIs(Stretch.barred() == (None, 0, 0), False)
        self.assertIs(Stretch.barred() == None, False)  # noqa: E711


class JoiningStretches(unittest.TestCase):
    def test_numbers_of_both(self):
        self.assertEqual(numbers(Stretch(1, -1, 2) + Stretch(0, 2, 3)), (1, 1, 3))
        self.assertEqual(numbers(Stretch(1, -1, 9) + Stretch(4, -4, 9)), (5, -5, 5))
        self.assertEqual(numbers(Stretch(0, 6, 9) + Stretch(4, -4, 9)), (0, 2, 5))
        self.assertEqual(numbers(Stretch(0, 0, 2) + Stretch(0, 0, 9)), (0, 0, 2))

    def test_the_first_top_and_the_other_need(self):
        self.assertEqual(Stretch(0, 9, 2) + Stretch(3, 0, 5), Stretch.barred())
        self.assertEqual(numbers(Stretch(0, 9, 3) + Stretch(3, 0, 5)), (0, 9, 3))

    def test_barred_on_either_side(self):
        one = Stretch(0, 5, 9)
        self.assertEqual(one + Stretch.barred(), Stretch.barred())
        self.assertEqual(Stretch.barred() + one, Stretch.barred())
        self.assertEqual(Stretch.barred() + Stretch.barred(), Stretch.barred())

    def test_all_small_ones_against_walking(self):
        for one, other in itertools.product(small_stretches(), repeat=2):
            both = one + other
            for oil in range(10):
                self.assertEqual(both(oil), walked(other, walked(one, oil)), (numbers(one), numbers(other), oil))
            if both:
                self.assertEqual(both.gain, one.gain + other.gain)
                self.assertEqual(both.top, both(20))
                self.assertEqual(both(both.need), walked(other, walked(one, both.need)))
                self.assertTrue(both.need == 0 or both(both.need - 1) is None)
            else:
                self.assertEqual(numbers(both), (None, 0, 0))

    def test_grouping_does_not_matter(self):
        told = random.Random(3)
        found = small_stretches()
        for _ in range(3000):
            one, two, three = told.choices(found, k=3)
            self.assertEqual((one + two) + three, one + (two + three))

    def test_only_stretches_are_joined(self):
        for value in (None, 1, (1, 1, 1), "1"):
            with self.assertRaises(TypeError):
                Stretch(0, 0, 1) + value


class RepeatingStretches(unittest.TestCase):
    def test_once_is_the_same(self):
        for stretch in small_stretches():
            self.assertEqual(stretch * 1, stretch)

    def test_all_small_ones_against_sums_and_walking(self):
        for stretch in small_stretches():
            total = stretch
            for times in range(1, 12):
                found = stretch * times
                self.assertEqual(found, total, (numbers(stretch), times))
                for oil in range(40):
                    self.assertEqual(found(oil), walked_times(stretch, oil, times))
                total = total + stretch

    def test_great_times_of_a_gain(self):
        found = Stretch(2, 3, 10) * GREAT
        self.assertEqual(numbers(found), (2, 3 * GREAT, 10))
        self.assertEqual([found(1), found(2), found(10 ** 30)], [None, 10, 10])

    def test_great_times_without_a_gain(self):
        self.assertEqual(numbers(Stretch(2, 0, 10) * GREAT), (2, 0, 10))
        self.assertEqual((Stretch(2, 0, 10) * GREAT)(7), 7)

    def test_great_times_of_a_loss(self):
        enough = GREAT + 4
        found = Stretch(1, -1, enough) * GREAT
        self.assertEqual(numbers(found), (GREAT, -GREAT, 5))
        self.assertEqual([found(GREAT - 1), found(GREAT), found(GREAT + 2)], [None, 0, 2])
        self.assertEqual(numbers(Stretch(1, -1, GREAT - 1) * GREAT), (GREAT, -GREAT, 0))
        self.assertEqual(Stretch(1, -1, GREAT - 2) * GREAT, Stretch.barred())
        self.assertEqual(Stretch(1, -1, 10 ** 9) * GREAT, Stretch.barred())

    def test_great_times_of_a_top_below_the_need(self):
        self.assertEqual(numbers(Stretch(3, 1, 2) * 1), (3, 1, 2))
        for times in (2, 3, GREAT):
            self.assertEqual(Stretch(3, 1, 2) * times, Stretch.barred())
        self.assertEqual(numbers(Stretch(3, 1, 3) * GREAT), (3, GREAT, 3))

    def test_great_times_are_split(self):
        told = random.Random(5)
        found = [*small_stretches(), Stretch(7, -7, 8 * GREAT), Stretch(9, -2, 2 * GREAT + 5)]
        for _ in range(400):
            stretch = told.choice(found)
            times = told.randrange(2, GREAT + 1)
            first = told.randrange(1, times)
            self.assertEqual(stretch * times, stretch * first + stretch * (times - first))
        for stretch in found:
            self.assertEqual(stretch * GREAT, (stretch * 10 ** 9) * 10 ** 9)
            self.assertEqual(stretch * GREAT, stretch * (GREAT - 1) + stretch)

    def test_barred(self):
        for times in (1, 2, GREAT):
            self.assertEqual(Stretch.barred() * times, Stretch.barred())

    def test_wrong_times(self):
        for stretch in (Stretch(0, 0, 5), Stretch.barred()):
            for times in (*NO_NUMBERS, 0, -1, GREAT + 1):
                with self.subTest(repr(times)):
                    raised(InvalidNumber, lambda: stretch * times)
        self.assertEqual(numbers(Stretch(0, 0, 5) * GREAT), (0, 0, 5))


if __name__ == "__main__":
    unittest.main()
