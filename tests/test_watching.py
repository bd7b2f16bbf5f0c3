import itertools
import random
import unittest

from helpers import BILLION, GREAT, NO_NUMBERS, arrivals, raised, some_rows, walk
from oilwalk.errors import Contradiction, InvalidNumber, UnknownPost
from oilwalk.walking import is_endless, oil_after
from oilwalk.watching import OilObserver
from oilwalk.ways import Way

ALL = BILLION + 1


def example():
    return Way(10, (4, 3), (0, 5), (6, 2))


def shown(observer):
    """All that can be read of an observer without arguments."""
    return (observer.oil_range, observer.how_many(), observer.observations)


def with_oil(rows, post, amount):
    return rows[:post] + ((amount, rows[post][1]),) + rows[post + 1:]


def lasts(capacity, rows, post, oil):
    """Walk more rounds than a lantern of this capacity can lose oil in."""
    return arrivals(capacity, rows, post, oil, (capacity + 3) * len(rows))[1] is None


class Model:
    """Keeps a list of the possible amounts up to a bound.

    An amount of the capacity fills the lantern, so all greater ones do the
    same; the bound stands for itself and for all that are greater.
    """

    def __init__(self, capacity, rows, post):
        self.capacity = capacity
        self.rows = rows
        self.post = post
        self.bound = capacity + 2
        self.possible = list(range(self.bound + 1))

    def left(self, amount, start, held, legs):
        return walk(self.capacity, with_oil(self.rows, self.post, amount), start, held, legs)

    def remaining(self, start, held, legs, left):
        return [amount for amount in self.possible if self.left(amount, start, held, legs) == left]

    def how_many(self):
        more = BILLION - self.bound if self.bound in self.possible else 0
        return len(self.possible) + more

    def oil_range(self):
        greatest = self.possible[-1]
        return (self.possible[0], BILLION if greatest == self.bound else greatest)

    def left_range(self, *walked):
        return (self.left(self.possible[0], *walked), self.left(self.possible[-1], *walked))

    def least_endless(self, start, held):
        for amount in self.possible:
            if lasts(self.capacity, with_oil(self.rows, self.post, amount), start, held):
                return amount
        return None


class InterfaceExamples(unittest.TestCase):
    def test_seeing(self):
        way = Way(10, (4, 3), (0, 5), (6, 2))
        observer = OilObserver(way, 2)
        found = [observer.see(2, 1, 1, 5), observer.oil_range, 7 in observer, observer.left_range(2, 1, 3)]
        self.assertEqual(found, [1, (6, 6), False, (1, 1)])

    def test_contradiction(self):
        observer = OilObserver(example(), 2)
        self.assertEqual([observer.see(2, 1, 1, 8), observer.oil_range], [BILLION - 8, (9, BILLION)])
        raised(Contradiction, observer.see, 2, 1, 1, None)

    def test_least_endless_and_from_log(self):
        way = Way(10, (4, 3), (0, 5), (6, 2))
        found = [OilObserver(way, 2).least_endless(0, 5), OilObserver.from_log(way, 2, (2, 1, 1, None)).how_many()]
        self.assertEqual(found, [6, 1])


class Beginning(unittest.TestCase):
    def test_any_amount_is_possible(self):
        for post in range(3):
            observer = OilObserver(example(), post)
            self.assertEqual(shown(observer), ((0, BILLION), ALL, []))
            self.assertIsInstance(observer.oil_range, tuple)
            self.assertIsInstance(observer.observations, list)

    def test_what_the_way_tells_does_not_count(self):
        for there in (0, 1, 6, BILLION):
            way = example().with_post(2, there, 2)
            observer = OilObserver(way, 2)
            self.assertEqual(shown(observer), ((0, BILLION), ALL, []))
            self.assertEqual(observer.left_range(2, 1, 1), (None, 8))
            self.assertEqual(observer.least_endless(0, 5), 6)
            self.assertEqual(observer.see(2, 1, 1, 5), 1)
            self.assertEqual(observer.oil_range, (6, 6))
            self.assertEqual(way, example().with_post(2, there, 2))

    def test_unknown_posts(self):
        for post in (*NO_NUMBERS, -1, 3, 10 ** 20):
            with self.subTest(repr(post)):
                raised(UnknownPost, OilObserver, example(), post)
                raised(UnknownPost, OilObserver.from_log, example(), post)
                raised(UnknownPost, OilObserver.from_log, example(), post, (0, 99, -1, -1))

    def test_properties_are_not_assigned(self):
        observer = OilObserver(example(), 0)
        for name in ("oil_range", "observations"):
            with self.subTest(name), self.assertRaises(AttributeError):
                setattr(observer, name, ())

    def test_observers_know_nothing_of_each_other(self):
        one, other = OilObserver(example(), 2), OilObserver(example(), 2)
        one.see(2, 1, 1, 5)
        self.assertEqual(shown(other), ((0, BILLION), ALL, []))


class Seeing(unittest.TestCase):
    def observed(self, *observation, capacity=10):
        observer = OilObserver(example().with_capacity(capacity), 2)
        return (observer.see(*observation), observer.oil_range)

    def test_one_amount(self):
        self.assertEqual(self.observed(2, 1, 1, 0), (1, (1, 1)))
        self.assertEqual(self.observed(2, 0, 1, 0), (1, (2, 2)))
        self.assertEqual(self.observed(2, 0, 1, 7), (1, (9, 9)))

    def test_the_lantern_is_full(self):
        self.assertEqual(self.observed(2, 0, 1, 8), (ALL - 10, (10, BILLION)))
        self.assertEqual(self.observed(2, 10, 1, 8), (ALL, (0, BILLION)))

    def test_the_lantern_went_out(self):
        self.assertEqual(self.observed(2, 0, 1, None), (2, (0, 1)))
        self.assertEqual(self.observed(2, 1, 1, None), (1, (0, 0)))
        self.assertEqual(self.observed(1, 4, 1, None), (ALL, (0, BILLION)))

    def test_no_legs(self):
        for oil in (0, 3, 10):
            for start in range(3):
                self.assertEqual(self.observed(start, oil, 0, oil), (ALL, (0, BILLION)))
                for left in {None, 0, 2, 3, 4, 9, 10} - {oil}:
                    raised(Contradiction, self.observed, start, oil, 0, left)

    def test_the_hidden_post_is_not_reached(self):
        self.assertEqual(self.observed(0, 5, 2, 1), (ALL, (0, BILLION)))
        raised(Contradiction, self.observed, 0, 5, 2, 2)
        raised(Contradiction, self.observed, 0, 5, 2, None)

    def test_each_narrows_what_remains(self):
        observer = OilObserver(example().with_capacity(8), 2)
        told = []
        for observation in ((2, 4, 1, 6), (2, 2, 1, 6), (2, 0, 1, 5), (2, 0, 0, 0), (2, 0, 1, 5)):
            told.append((observer.see(*observation), observer.oil_range))
        self.assertEqual(told, [
            (ALL - 4, (4, BILLION)), (ALL - 6, (6, BILLION)), (1, (7, 7)), (1, (7, 7)), (1, (7, 7)),
        ])
        raised(Contradiction, observer.see, 2, 0, 1, 6)

    def test_from_above(self):
        way = Way(20, (3, 5), (0, 9))
        observer = OilObserver(way, 1)
        self.assertEqual([observer.see(1, 0, 1, None), observer.oil_range], [9, (0, 8)])
        self.assertEqual([observer.see(1, 4, 1, None), observer.oil_range], [5, (0, 4)])
        self.assertEqual([observer.see(1, 8, 2, None), observer.oil_range], [3, (0, 2)])
        raised(Contradiction, observer.see, 1, 8, 1, 2)
        self.assertEqual([observer.see(1, 8, 1, 1), observer.oil_range], [1, (2, 2)])

    def test_0_and_the_greatest_amount_can_be_told(self):
        way = Way(BILLION, (7, BILLION), (0, 1))
        self.assertEqual(OilObserver.from_log(way, 0, (0, 0, 1, None)).oil_range, (0, BILLION - 1))
        self.assertEqual(OilObserver.from_log(way, 0, (0, 0, 1, 0)).oil_range, (BILLION, BILLION))
        observer = OilObserver.from_log(Way(BILLION, (7, 1)), 0, (0, BILLION - 1, 1, BILLION - 1))
        self.assertEqual(observer.oil_range, (1, BILLION))
        self.assertEqual(OilObserver.from_log(Way(BILLION, (7, 1)), 0, (0, 1, 1, 0)).oil_range, (0, 0))
        self.assertEqual(OilObserver.from_log(Way(BILLION, (7, 1)), 0, (0, 0, 1, None)).oil_range, (0, 0))

    def test_a_way_with_one_post(self):
        observer = OilObserver(Way(9, (0, 4)), 0)
        self.assertEqual(observer.see(0, 9, 3, 3), 1)
        self.assertEqual(observer.oil_range, (3, 3))
        self.assertEqual([observer.see(0, 9, 6, 0), observer.see(0, 9, GREAT, None)], [1, 1])

    def test_great_numbers_of_legs(self):
        way = Way(BILLION, (5, 7), (0, 3))
        observer = OilObserver(way, 1)
        self.assertEqual(observer.see(0, 2, GREAT, 2), 1)
        self.assertEqual(observer.oil_range, (5, 5))
        observer = OilObserver(way, 1)
        self.assertEqual(observer.see(0, 2, GREAT, BILLION - 3), ALL - 7)
        self.assertEqual(observer.oil_range, (7, BILLION))
        observer = OilObserver(way, 1)
        self.assertEqual(observer.see(0, BILLION, GREAT, None), 5)
        self.assertEqual(observer.oil_range, (0, 4))
        self.assertEqual(observer.see(0, BILLION, 2 * (BILLION // 4), None), 2)
        self.assertEqual(observer.oil_range, (0, 1))


class ArgumentsOfObservations(unittest.TestCase):
    def setUp(self):
        self.observer = OilObserver.from_log(example(), 2, (2, 0, 1, 8), (0, 5, 3, 8))
        self.before = shown(self.observer)

    def check(self, error, *told):
        """A failing call changes nothing, neither seen nor asked, neither at once nor from a log."""
        raised(error, self.observer.see, *told)
        self.assertEqual(shown(self.observer), self.before)
        raised(error, OilObserver.from_log, example(), 2, (2, 0, 1, 8), told, (2, 0, 0, 1))

    def check_walk(self, error, start, held, legs):
        for left in (0, 7, None, 11, -1, "7"):
            self.check(error, start, held, legs, left)
        raised(error, self.observer.left_range, start, held, legs)
        self.assertEqual(shown(self.observer), self.before)

    def test_unknown_posts(self):
        for start in (*NO_NUMBERS, -1, 3, 10 ** 20):
            with self.subTest(repr(start)):
                for held, legs in ((1, 1), (11, 1), (1, -1), (None, None)):
                    self.check_walk(UnknownPost, start, held, legs)
                    raised(UnknownPost, self.observer.least_endless, start, held)

    def test_wrong_oil(self):
        for held in (*NO_NUMBERS, -1, 11, 10 ** 20):
            with self.subTest(repr(held)):
                for legs in (0, 1, GREAT + 1, None):
                    self.check_walk(InvalidNumber, 2, held, legs)
                raised(InvalidNumber, self.observer.least_endless, 2, held)

    def test_wrong_legs(self):
        for legs in (*NO_NUMBERS, -1, GREAT + 1, 10 ** 20):
            with self.subTest(repr(legs)):
                self.check_walk(InvalidNumber, 2, 1, legs)

    def test_wrong_oil_that_was_left(self):
        for left in (*NO_NUMBERS, -1, 11, 10 ** 20):
            if left is not None:
                with self.subTest(repr(left)):
                    self.check(InvalidNumber, 2, 0, 1, left)
                    self.check(InvalidNumber, 0, 0, 0, left)

    def test_limits_are_included(self):
        way = Way(BILLION, (3, 1))
        observer = OilObserver(way, 0)
        self.assertEqual(observer.see(0, 0, 0, 0), ALL)
        self.assertEqual(observer.see(0, BILLION, 0, BILLION), ALL)
        raised(InvalidNumber, observer.see, 0, BILLION, 0, BILLION + 1)
        raised(InvalidNumber, observer.see, 0, BILLION + 1, 0, BILLION)
        raised(Contradiction, observer.see, 0, 0, 0, BILLION)
        self.assertEqual(observer.see(0, BILLION, GREAT, BILLION - 1), BILLION)
        self.assertEqual(observer.oil_range, (1, BILLION))
        self.assertEqual(observer.left_range(0, BILLION, GREAT), (BILLION - 1, BILLION - 1))
        raised(InvalidNumber, observer.left_range, 0, BILLION, GREAT + 1)
        self.assertEqual(observer.left_range(0, 0, 0), (0, 0))
        self.assertEqual([observer.least_endless(0, 0), observer.least_endless(0, BILLION)], [1, 1])
        raised(InvalidNumber, observer.least_endless, 0, BILLION + 1)

    def test_contradictions_come_last(self):
        observer = OilObserver(example(), 2)
        raised(InvalidNumber, observer.see, 0, 5, 2, 11)
        raised(InvalidNumber, observer.see, 0, 5, 2, True)
        raised(Contradiction, observer.see, 0, 5, 2, 10)
        self.assertEqual(shown(observer), ((0, BILLION), ALL, []))

    def test_the_capacity_of_the_way_limits(self):
        observer = OilObserver(Way(1, (0, 1)), 0)
        raised(InvalidNumber, observer.see, 0, 2, 1, 0)
        raised(InvalidNumber, observer.see, 0, 1, 1, 2)
        raised(Contradiction, observer.see, 0, 1, 1, 1)
        self.assertEqual(observer.see(0, 1, 1, 0), ALL)


class Contradictions(unittest.TestCase):
    def test_everything_is_as_before(self):
        observer = OilObserver(example(), 2)
        observer.see(2, 0, 1, 8)
        before = shown(observer)
        for observation in ((2, 0, 1, 7), (2, 0, 1, None), (2, 0, 1, 9), (0, 5, 2, 0), (2, 0, 3, None)):
            raised(Contradiction, observer.see, *observation)
            self.assertEqual(shown(observer), before)
        self.assertEqual([9 in observer, 10 in observer, BILLION in observer], [False, True, True])
        self.assertEqual(observer.see(2, 1, 1, 8), ALL - 10)
        self.assertEqual(observer.observations, [(2, 0, 1, 8), (2, 1, 1, 8)])

    def test_the_last_amount_is_not_lost(self):
        observer = OilObserver.from_log(example(), 2, (2, 1, 1, 5))
        for observation in ((2, 1, 1, 4), (2, 1, 1, 6), (2, 1, 1, None), (2, 10, 1, 7)):
            raised(Contradiction, observer.see, *observation)
            self.assertEqual(shown(observer), ((6, 6), 1, [(2, 1, 1, 5)]))
        self.assertEqual(observer.see(2, 10, 1, 8), 1)

    def test_from_log(self):
        raised(Contradiction, OilObserver.from_log, example(), 2, (2, 1, 1, 5), (2, 1, 1, 4))
        raised(Contradiction, OilObserver.from_log, example(), 2, (2, 1, 1, 5), (2, 1, 1, 4), (3, 1, 1, 4))
        raised(UnknownPost, OilObserver.from_log, example(), 2, (2, 1, 1, 5), (3, 1, 1, 4), (2, 1, 1, 4))
        raised(InvalidNumber, OilObserver.from_log, example(), 2, (2, 11, 1, 5), (3, 1, 1, 4))


class Membership(unittest.TestCase):
    def test_what_is_no_amount(self):
        values = (*NO_NUMBERS, -1, ALL, 10 ** 20, -(10 ** 20), 7.0, b"7", {7: 7}, range(9), object(), example())
        for observer in (OilObserver(example(), 2), OilObserver.from_log(example(), 2, (2, 10, 1, 8))):
            self.assertEqual(observer.oil_range, (0, BILLION))
            for value in values:
                with self.subTest(repr(value)):
                    self.assertIs(value in observer, False)
                    self.assertIs(value not in observer, True)

    def test_the_limits(self):
        observer = OilObserver(example(), 2)
        self.assertEqual([at in observer for at in (-1, 0, 1, BILLION - 1, BILLION, ALL)],
                         [False, True, True, True, True, False])
        observer.see(2, 0, 1, 8)
        self.assertEqual([at in observer for at in (0, 9, 10, 11, BILLION, ALL)],
                         [False, False, True, True, True, False])
        observer = OilObserver.from_log(example(), 2, (2, 0, 1, None))
        self.assertEqual([at in observer for at in (-1, 0, 1, 2, True, False)],
                         [False, True, True, False, False, False])


class Observations(unittest.TestCase):
    def test_in_their_order(self):
        observer = OilObserver(example(), 2)
        told = [(2, 1, 1, 5), (0, 5, 2, 1), (2, 1, 1, 5), (1, 0, GREAT, None), (2, 0, 0, 0)]
        for at, observation in enumerate(told):
            self.assertEqual(observer.observations, told[:at])
            observer.see(*observation)
        self.assertEqual(observer.observations, told)
        self.assertTrue(all(isinstance(observation, tuple) for observation in observer.observations))

    def test_the_list_is_new_for_each_reading(self):
        observer = OilObserver(example(), 2)
        observer.see(2, 0, 1, 8)
        first = observer.observations
        first.append((2, 0, 1, 7))
        self.assertEqual(observer.observations, [(2, 0, 1, 8)])
        observer.observations.clear()
        self.assertEqual(shown(observer), ((10, BILLION), ALL - 10, [(2, 0, 1, 8)]))
        self.assertIsNot(observer.observations, observer.observations)
        second = observer.observations
        observer.see(2, 1, 1, 8)
        self.assertEqual(second, [(2, 0, 1, 8)])

    def test_a_log_that_its_caller_changes(self):
        log = [(2, 0, 1, 8), (2, 1, 1, 8)]
        observer = OilObserver.from_log(example(), 2, *log)
        self.assertEqual(log, [(2, 0, 1, 8), (2, 1, 1, 8)])
        log.clear()
        self.assertEqual(observer.observations, [(2, 0, 1, 8), (2, 1, 1, 8)])
        again = OilObserver.from_log(example(), 2, *observer.observations)
        self.assertEqual(shown(again), shown(observer))

    def test_an_empty_log(self):
        self.assertEqual(shown(OilObserver.from_log(example(), 1)), ((0, BILLION), ALL, []))

    def test_asking_is_no_observation(self):
        observer = OilObserver.from_log(example(), 2, (2, 0, 1, 8))
        before = shown(observer)
        observer.left_range(2, 0, 7)
        observer.least_endless(2, 0)
        self.assertTrue(11 in observer)
        self.assertEqual(shown(observer), before)


class LeftRange(unittest.TestCase):
    def test_out_with_the_least_amount(self):
        observer = OilObserver(example(), 2)
        self.assertEqual(observer.left_range(2, 0, 1), (None, 8))
        self.assertEqual(observer.left_range(2, 2, 1), (0, 8))
        self.assertEqual(observer.left_range(1, 0, 1), (None, None))
        self.assertEqual(observer.left_range(0, 5, 0), (5, 5))
        self.assertIsInstance(observer.left_range(0, 5, 0), tuple)

    def test_after_observations(self):
        observer = OilObserver.from_log(example(), 2, (2, 0, 1, None))
        self.assertEqual(observer.oil_range, (0, 1))
        self.assertEqual([observer.left_range(2, held, 1) for held in (0, 1, 2, 10)],
                         [(None, None), (None, 0), (0, 1), (8, 8)])

    def test_great_numbers(self):
        way = Way(BILLION, (3, 5), (0, 7), (4, 6))
        observer = OilObserver(way, 1)
        self.assertEqual(observer.left_range(1, 7, GREAT), (None, oil_after(way.with_post(1, BILLION, 7), 1, 7, GREAT)))
        observer.see(1, BILLION, GREAT - GREAT % 3, None)
        self.assertEqual(observer.oil_range, (0, 10))
        self.assertEqual(observer.left_range(1, BILLION, 3), (BILLION - 11, BILLION - 11))
        self.assertEqual(observer.left_range(1, 50, 3), (39, 49))


class LeastEndless(unittest.TestCase):
    def test_of_the_possible_ones(self):
        observer = OilObserver(example(), 2)
        self.assertEqual([observer.least_endless(0, oil) for oil in (0, 3, 4, 5, 10)], [None, None, 6, 6, 6])
        observer.see(2, 0, 1, 8)
        self.assertEqual([observer.least_endless(0, oil) for oil in (3, 4)], [None, 10])
        observer = OilObserver.from_log(example(), 2, (2, 1, 1, 4))
        self.assertEqual(observer.oil_range, (5, 5))
        self.assertIsNone(observer.least_endless(0, 10))
        observer = OilObserver.from_log(example(), 2, (2, 1, 1, 5))
        self.assertEqual(observer.least_endless(0, 4), 6)

    def test_only_the_greatest_amount_is_enough(self):
        self.assertEqual(OilObserver(Way(BILLION, (0, BILLION)), 0).least_endless(0, 7), BILLION)
        self.assertEqual(OilObserver(Way(BILLION, (0, BILLION), (0, 1)), 0).least_endless(0, 7), None)

    def test_0_is_enough(self):
        observer = OilObserver(Way(9, (7, 3), (5, 3)), 1)
        self.assertEqual([observer.least_endless(1, oil) for oil in (0, 2, 3, 9)], [3, 1, 0, 0])

    def test_great_numbers(self):
        way = Way(BILLION, (123456789, 400000000), (7, 1), (5, 100000000))
        found = OilObserver(way, 1).least_endless(0, BILLION)
        self.assertEqual(found, 400000000 + 1 + 100000000 - 123456789 - 5)
        self.assertTrue(is_endless(way.with_post(1, found, 1), 0, BILLION))
        self.assertFalse(is_endless(way.with_post(1, found - 1, 1), 0, BILLION))


class AgainstPlainWalking(unittest.TestCase):
    def compare(self, observer, model, told):
        self.assertEqual(observer.oil_range, model.oil_range())
        self.assertEqual(observer.how_many(), model.how_many())
        self.assertEqual([at for at in range(model.bound + 1) if at in observer], model.possible)
        start = told.randrange(len(model.rows))
        held = told.randint(0, model.capacity)
        legs = told.randint(0, 2 * len(model.rows) + 1)
        self.assertEqual(observer.left_range(start, held, legs), model.left_range(start, held, legs))
        self.assertEqual(observer.least_endless(start, held), model.least_endless(start, held))

    def see(self, observer, model, observation):
        """Return False if it is a contradiction."""
        remaining = model.remaining(*observation)
        before = shown(observer)
        if not remaining:
            raised(Contradiction, observer.see, *observation)
            self.assertEqual(shown(observer), before)
            return False
        model.possible = remaining
        self.assertEqual(observer.see(*observation), model.how_many())
        return True

    def some_observation(self, told, model):
        """Mostly one that agrees with some possible amount."""
        start = told.randrange(len(model.rows))
        held = told.randint(0, model.capacity)
        legs = told.choice((0, 1, 1, 2, 3, len(model.rows), 2 * len(model.rows) + 1))
        if told.randrange(4) == 0:
            return (start, held, legs, told.choice((None, told.randint(0, model.capacity))))
        return (start, held, legs, model.left(told.choice(model.possible), start, held, legs))

    def test_some_observers(self):
        told = random.Random(51)
        for capacity, rows in some_rows(52, 250, 6, 5, 4, 9):
            way = Way(capacity, *rows)
            post = told.randrange(len(rows))
            observer, model = OilObserver(way, post), Model(capacity, rows, post)
            log = []
            self.compare(observer, model, told)
            for _ in range(5):
                observation = self.some_observation(told, model)
                if self.see(observer, model, observation):
                    log.append(observation)
                self.compare(observer, model, told)
                self.assertEqual(observer.observations, log)
            self.assertEqual(shown(OilObserver.from_log(way, post, *log)), shown(observer))

    def test_all_single_observations(self):
        pairs = [(oil, steps) for oil in (0, 2) for steps in (1, 3)]
        for rows in [(pair,) for pair in pairs] + list(itertools.product(pairs, repeat=2)):
            way = Way(4, *rows)
            for start, held, legs in itertools.product(range(len(rows)), (0, 2, 4), (1, 2, 3)):
                for left in (None, 0, 1, 2, 3, 4):
                    observer, model = OilObserver(way, 0), Model(4, rows, 0)
                    self.see(observer, model, (start, held, legs, left))
                    self.assertEqual(observer.oil_range, model.oil_range())

    def test_great_numbers_against_settled_walks(self):
        told = random.Random(53)
        for capacity, rows in some_rows(54, 60, 12, 9, 4, 9):
            post, start = told.randrange(len(rows)), told.randrange(len(rows))
            held = told.randint(0, capacity)
            legs = told.randrange(GREAT // 2, GREAT + 1)
            near = 20 * len(rows) + legs % len(rows)
            amount = told.randint(0, capacity + 1)
            left = walk(capacity, with_oil(rows, post, amount), start, held, near)
            observer, model = OilObserver(Way(capacity, *rows), post), Model(capacity, rows, post)
            model.possible = model.remaining(start, held, near, left)
            self.assertEqual(observer.see(start, held, legs, left), model.how_many())
            self.assertEqual(observer.oil_range, model.oil_range())

    def test_great_amounts_against_the_oil_after(self):
        told = random.Random(55)
        for _ in range(60):
            rows = [(told.randint(0, BILLION // 9), told.randint(1, BILLION // 9)) for _ in range(told.randint(1, 12))]
            way = Way(told.randint(BILLION // 2, BILLION), *rows)
            post, start = told.randrange(len(rows)), told.randrange(len(rows))
            held, legs = told.randint(0, way.capacity), told.choice((1, 5, 12, told.randint(13, GREAT)))
            amount = told.randint(0, BILLION)
            left = oil_after(way.with_post(post, amount, rows[post][1]), start, held, legs)
            observer = OilObserver(way, post)
            observer.see(start, held, legs, left)
            self.assertIn(amount, observer)
            least, greatest = observer.oil_range
            for at in (least - 1, least, greatest, greatest + 1):
                if 0 <= at <= BILLION:
                    found = oil_after(way.with_post(post, at, rows[post][1]), start, held, legs)
                    self.assertIs(found == left, least <= at <= greatest)


if __name__ == "__main__":
    unittest.main()
