"""What point 1 promises over the whole program."""

import random
import unittest

from helpers import BILLION, GREAT, NO_NUMBERS, raised
from oilwalk.codec import decode_way, encode_way, pack_bytes, unpack_bytes
from oilwalk.errors import (
    Contradiction, DecodeError, GoesOut, InvalidCount, InvalidNumber, InvalidOperation, InvalidStretch, InvalidWay,
    NotationError, UnknownPost, WalkError,
)
from oilwalk.live import LiveWalk
from oilwalk.notation import format_way, log_text, parse_way
from oilwalk.planning import fewest_stops, helpful_posts, judge_stretch, least_capacity, stops_needed, worst_stretch
from oilwalk.stretches import Stretch
from oilwalk.walking import first_unlike, goes_out, good_posts, is_endless, least_oil, oil_after, settled
from oilwalk.watching import OilObserver
from oilwalk.ways import Way


def example():
    return Way(10, (4, 3), (0, 5), (6, 2))


def live():
    return LiveWalk(example(), 0, 5)


def observer():
    return OilObserver(example(), 2)


def with_example(call):
    """Return a call that is given the way of the examples first."""
    return lambda *told: call(example(), *told)


def unlike(post, oil):
    return first_unlike(example(), example(), post, oil)


START = (UnknownPost, InvalidNumber)
WALK = (UnknownPost, InvalidNumber, InvalidNumber)

# A call, valid arguments, and what is raised for each one that is wrong.
CALLS = {
    "Way": (Way, (5,), (InvalidWay,)),
    "with_post": (lambda *told: example().with_post(*told), (0, 1, 1), (UnknownPost, InvalidWay, InvalidWay)),
    "with_capacity": (lambda *told: example().with_capacity(*told), (5,), (InvalidWay,)),
    "stretch": (lambda *told: example().stretch(*told), (0, 1), START),
    "[]": (lambda post: example()[post], (0,), (UnknownPost,)),
    ">>": (lambda posts: example() >> posts, (0,), (InvalidNumber,)),
    "Stretch *": (lambda times: Stretch(0, 0, 0) * times, (1,), (InvalidNumber,)),
    "oil_after": (with_example(oil_after), (0, 5, 1), WALK),
    "is_endless": (with_example(is_endless), (0, 5), START),
    "goes_out": (with_example(goes_out), (0, 5), START),
    "settled": (with_example(settled), (0, 5), START),
    "least_oil": (with_example(least_oil), (0,), (UnknownPost,)),
    "first_unlike": (unlike, (0, 5), START),
    "judge_stretch": (with_example(judge_stretch), (0, 5), START),
    "fewest_stops": (with_example(fewest_stops), (0, 5, 1), WALK),
    "stops_needed": (with_example(stops_needed), (0, 5, 1), WALK),
    "LiveWalk": (lambda *told: LiveWalk(example(), *told).oil_now, (0, 5), START),
    "walk": (lambda *told: live().walk(*told), (1,), (InvalidNumber,)),
    "spill": (lambda *told: live().spill(*told), (1,), (InvalidNumber,)),
    "refill": (lambda *told: live().refill(*told), (0, 1), START),
    "trade": (lambda *told: live().trade(*told), (1,), (InvalidNumber,)),
    "replay": (lambda *told: LiveWalk.replay(example(), *told, []).oil_now, (0, 5), START),
    "OilObserver": (lambda *told: OilObserver(example(), *told).how_many(), (0,), (UnknownPost,)),
    "see": (lambda *told: observer().see(*told), (2, 1, 1, 5), (*WALK, InvalidNumber)),
    "left_range": (lambda *told: observer().left_range(*told), (2, 1, 1), WALK),
    "least_endless": (lambda *told: observer().least_endless(*told), (0, 5), START),
    "log_text": (with_example(log_text), (0, 5, 1), WALK),
}

# Calls that return lists, which their callers may modify.
WAY = Way(5, (2, 3), (4, 2), (1, 2))
LIVE = LiveWalk.replay(WAY, 0, 1, [("walk", 1), ("spill", 0)])
OBSERVER = OilObserver.from_log(WAY, 0, (0, 1, 0, 1))
LISTS = {
    "good_posts": lambda: good_posts(WAY),
    "helpful_posts": lambda: helpful_posts(WAY),
    "stops_needed": lambda: stops_needed(WAY, 0, 5, 3),
    "history": lambda: LIVE.history,
    "walk": lambda: LiveWalk(WAY, 0, 5).walk(2),
    "apply": lambda: LiveWalk(WAY, 0, 5).apply(("walk", 2), ("spill", 0)),
    "observations": lambda: OBSERVER.observations,
    "unpack_bytes": lambda: unpack_bytes(b"ab"),
}


class Numbers(unittest.TestCase):
    def wrong_values(self, name, at):
        """What is wrong for each number; None is right for the oil that is left."""
        values = [*NO_NUMBERS, -1, 10 ** 20]
        return [value for value in values if not (name == "see" and at == 3 and value is None)]

    def test_true_and_false_and_all_others_are_no_numbers(self):
        for name, (call, right, errors) in CALLS.items():
            for at, error in enumerate(errors):
                for value in self.wrong_values(name, at):
                    with self.subTest(name, at=at, value=repr(value)):
                        raised(error, call, *right[:at], value, *right[at + 1:])

    def test_arguments_are_checked_from_left_to_right(self):
        for name, (call, right, errors) in CALLS.items():
            for at, error in enumerate(errors):
                for value in self.wrong_values(name, at):
                    with self.subTest(name, at=at, value=repr(value)):
                        raised(error, call, *right[:at], value, *[-1] * (len(right) - at - 1))

    def test_the_number_of_posts_comes_first(self):
        for value in (*NO_NUMBERS, 0, -1, 13, 10 ** 20):
            with self.subTest(repr(value)):
                raised(InvalidNumber, Way.even, 5, value, 1, 2)
                raised(InvalidNumber, Way.even, 0, value, -1, 0)
        self.assertEqual(raised(InvalidWay, Way.even, 0, 2, -1, 0).part, "capacity")
        self.assertEqual(raised(InvalidWay, Way.even, 5, 2, True, 0).part, "posts")

    def test_in_stretches(self):
        for value in (True, False):
            for at, part in enumerate(("need", "gain", "top")):
                told = [1, 1, 1]
                told[at] = value
                self.assertEqual(raised(InvalidStretch, Stretch, *told).part, part)
            raised(InvalidNumber, Stretch(0, 0, 1), value)

    def test_in_posts(self):
        for value in NO_NUMBERS:
            for post in ((value, 1), (1, value)):
                caught = raised(InvalidWay, Way, 5, (1, 1), post)
                self.assertEqual((caught.part, caught.index), ("posts", 1))

    def test_in_operations_and_lists(self):
        for value in (True, False):
            for operation in (("walk", value), ("spill", value), ("trade", value), ("refill", 0, value)):
                raised(InvalidNumber, live().apply, operation)
                raised(InvalidNumber, live().oil_with, operation)
                raised(InvalidNumber, LiveWalk.replay, example(), 0, 5, [operation])
            raised(UnknownPost, live().apply, ("refill", value, 1))
            raised(InvalidCount, pack_bytes, [1, value])
            self.assertIs(value in observer(), False)


class Arguments(unittest.TestCase):
    def test_wrong_arguments_are_not_modified(self):
        before = repr(NO_NUMBERS)
        for call, right, errors in CALLS.values():
            for at, error in enumerate(errors):
                for value in ([], [1], [(1, 2)]):
                    again = list(value)
                    raised(error, call, *right[:at], value, *right[at + 1:])
                    self.assertEqual(value, again)
        self.assertEqual(repr(NO_NUMBERS), before)

    def test_lists_are_neither_modified_nor_kept(self):
        operations = [("walk", 1), ("spill", 1)]
        made = LiveWalk.replay(example(), 0, 5, operations)
        self.assertEqual(operations, [("walk", 1), ("spill", 1)])
        operations.clear()
        self.assertEqual(made.history, [("walk", 1), ("spill", 1)])
        rows = [(1, 2), (3, 4)]
        way = Way(5, *rows)
        rows.clear()
        self.assertEqual(way.posts, ((1, 2), (3, 4)))

    def test_ways_are_not_modified(self):
        way = example()
        told = encode_way(way)
        for call in (
            lambda: (way.with_post(0, 9, 9), way.with_capacity(9), way >> 1, ~way, way.stretch(0, GREAT)),
            lambda: (oil_after(way, 0, 5, 9), is_endless(way, 0, 5), goes_out(way, 0, 0), settled(way, 0, 5)),
            lambda: (least_oil(way, 0), good_posts(way), first_unlike(way, way, 0, 5), judge_stretch(way, 0, 3)),
            lambda: (worst_stretch(way), least_capacity(way), helpful_posts(way), stops_needed(way, 0, 5, 60)),
            lambda: LiveWalk(way, 0, 5).apply(("refill", 0, 9), ("trade", 20), ("walk", 9)),
            lambda: OilObserver(way, 0).see(0, 5, 1, None),
            lambda: (format_way(way), log_text(way, 0, 5, 100), decode_way(told), parse_way(format_way(way))),
        ):
            try:
                call()
            except WalkError:
                pass
            self.assertEqual(way, example())
            self.assertEqual(encode_way(way), told)


class ReturnedLists(unittest.TestCase):
    def test_callers_may_modify_them(self):
        for name, call in LISTS.items():
            with self.subTest(name):
                found = call()
                self.assertIsInstance(found, list)
                self.assertTrue(found)
                again = list(found)
                found.clear()
                self.assertEqual(call(), again)
                found.append("more")
                self.assertEqual(call(), again)


class Raising(unittest.TestCase):
    def test_live_walks_stay(self):
        made = LiveWalk.replay(example(), 0, 5, [("walk", 2), ("refill", 2, 0), ("spill", 1)])
        made.undo()

        def shown():
            return (made.way_now, made.post_now, made.oil_now, made.walked, made.history)

        before = shown()
        for error, call, *told in (
            (InvalidNumber, made.walk, 1001), (GoesOut, made.walk, 9), (InvalidNumber, made.spill, 9),
            (UnknownPost, made.refill, 3, 1), (InvalidNumber, made.refill, 0, -1), (InvalidNumber, made.trade, 0),
            (InvalidOperation, made.apply, ("spill", 1), ()), (InvalidNumber, made.apply, ("spill", 1), ("spill", 9)),
            (InvalidOperation, made.oil_with, ("spill", 1), ()), (GoesOut, made.oil_with, ("spill", 1), ("walk", 9)),
        ):
            raised(error, call, *told)
            self.assertEqual(shown(), before)
        self.assertEqual([made.redo(), made.history[-1]], [True, ("spill", 1)])

    def test_observers_stay(self):
        made = OilObserver.from_log(example(), 2, (2, 1, 1, 8))

        def shown():
            return (made.oil_range, made.how_many(), made.observations, made.left_range(2, 0, 1))

        before = shown()
        for error, *told in (
            (UnknownPost, 3, 0, 1, 8), (InvalidNumber, 2, 11, 1, 8), (InvalidNumber, 2, 0, GREAT + 1, 8),
            (InvalidNumber, 2, 0, 1, 11), (Contradiction, 2, 1, 1, 7),
        ):
            raised(error, made.see, *told)
            self.assertEqual(shown(), before)


class Repeated(unittest.TestCase):
    def test_equal_arguments_give_equal_values(self):
        for name, (call, right, _) in CALLS.items():
            if name != "Way":
                with self.subTest(name):
                    self.assertEqual(call(*right), call(*right))
        data = encode_way(example())
        self.assertEqual(data, encode_way(example()))
        self.assertEqual(decode_way(data), decode_way(data))
        self.assertEqual(parse_way(format_way(example())), parse_way(format_way(example())))

    def test_equal_errors(self):
        for call, told, names in (
            (decode_way, b"O\x01\x00", ("offset",)),
            (parse_way, "lantern 1\npost", ("row", "word")),
            (parse_way, "lantern 1\npost 1 0", ("part", "index")),
            (LiveWalk(example(), 0, 0).walk, 9, ("legs", "steps")),
        ):
            found = []
            for _ in range(2):
                try:
                    call(told)
                except WalkError as error:
                    found.append((error.__class__, [getattr(error, name) for name in names]))
            self.assertEqual(len(found), 2)
            self.assertEqual(found[0], found[1])

    def test_no_chance_and_no_order_of_calls(self):
        random.seed(1)
        first = [call(*right) for name, (call, right, _) in CALLS.items() if name != "Way"]
        random.seed(2)
        names = [name for name in CALLS if name != "Way"]
        again = {name: CALLS[name][0](*CALLS[name][1]) for name in reversed(names)}
        self.assertEqual(first, [again[name] for name in names])


class AllTogether(unittest.TestCase):
    def test_a_way_through_texts_and_bytes_walks_alike(self):
        for way in (example(), WAY, Way(BILLION, (BILLION, 1), (0, BILLION)), Way.even(7, 12, 3, 3)):
            again = decode_way(encode_way(parse_way(format_way(way))))
            self.assertEqual(again, way)
            self.assertEqual(again.surplus, way.surplus)
            for post in range(len(way)):
                for oil in (0, 1, way.capacity):
                    self.assertEqual(oil_after(again, post, oil, GREAT), oil_after(way, post, oil, GREAT))
                    self.assertEqual(goes_out(again, post, oil), goes_out(way, post, oil))

    def test_logs_tell_what_live_walks_tell(self):
        for oil in range(11):
            told = goes_out(example(), 0, oil)
            legs = min(100, told[0]) if told else 100
            arrivals = LiveWalk(example(), 0, oil).walk(legs)
            lines = log_text(example(), 0, oil, 100).split("\n")
            self.assertEqual(len(lines), legs + 1 + (told is not None))
            self.assertEqual([int(line[7:].strip("_")) for line in lines[1:legs + 1]], arrivals)
            if told:
                self.assertEqual(lines[-1], f"{told[0] + 1:>3} -- {told[1]:_>13}")

    def test_what_live_walks_show_is_seen(self):
        made = LiveWalk(example(), 2, 3)
        seen = OilObserver(example(), 2)
        left = made.walk(7)[-1]
        seen.see(2, 3, 7, left)
        self.assertIn(example()[2][0], seen)

    def test_errors_for_texts_and_bytes(self):
        raised(NotationError, parse_way, encode_way(example()))
        raised(DecodeError, decode_way, format_way(example()))


if __name__ == "__main__":
    unittest.main()
