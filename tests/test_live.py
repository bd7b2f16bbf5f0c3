import random
import unittest

from helpers import BILLION, NO_NUMBERS, arrivals, raised, some_rows
from oilwalk.errors import AlreadyOpen, GoesOut, InvalidNumber, InvalidOperation, UnknownPost, WalkError
from oilwalk.live import LiveWalk
from oilwalk.walking import goes_out
from oilwalk.ways import Way


def example():
    return Way(10, (4, 3), (0, 5), (6, 2))


def shown(live):
    """All that the properties tell."""
    return (live.way_now, live.post_now, live.oil_now, live.walked, live.history)


def shown_whole(live):
    """What the properties tell now, and after each undo and redo; all is as before then."""
    with live:
        told = [shown(live)]
        while live.undo():
            told.append(shown(live))
    with live:
        while live.redo():
            told.append(shown(live))
    return told


class InterfaceExamples(unittest.TestCase):
    def test_operations(self):
        way = Way(10, (4, 3), (0, 5), (6, 2))
        live = LiveWalk(way, 0, 5)
        found = [live.walk(3), live.post_now, live.spill(2), live.refill(0, 1), live.trade(3), live.oil_now]
        self.assertEqual(found, [[6, 1, 5], 0, 3, 4, 0, 3])

    def test_goes_out(self):
        caught = raised(GoesOut, LiveWalk(example(), 0, 0).walk, 2)
        self.assertEqual((caught.legs, caught.steps), (1, 1))

    def test_apply_undo_redo(self):
        live = LiveWalk(example(), 0, 5)
        applied = live.apply(("walk", 1), ("spill", 1))
        found = [applied, live.undo(), live.undo(), live.undo(), live.redo(), live.history]
        self.assertEqual(found, [[[6], 5], True, True, False, True, [("walk", 1)]])

    def test_invalid_operation(self):
        caught = raised(InvalidOperation, LiveWalk(example(), 0, 5).apply, ("walk", 1), ("walk",))
        self.assertEqual(caught.index, 1)

    def test_oil_with(self):
        live = LiveWalk(example(), 0, 5)
        self.assertEqual([live.oil_with(("walk", 2)), live.oil_now], [1, 5])

    def test_replay(self):
        self.assertEqual(LiveWalk.replay(example(), 0, 5, [("walk", 4)]).walked, 4)


class Beginning(unittest.TestCase):
    def test_properties(self):
        for post, oil in ((0, 0), (1, 10), (2, 7)):
            live = LiveWalk(example(), post, oil)
            self.assertEqual(shown(live), (example(), post, oil, 0, []))
            self.assertEqual([live.undo(), live.redo()], [False, False])
            self.assertEqual(shown(live), (example(), post, oil, 0, []))

    def test_unknown_posts(self):
        for post in (*NO_NUMBERS, -1, 3, 10 ** 20):
            with self.subTest(repr(post)):
                raised(UnknownPost, LiveWalk, example(), post, 5)
                raised(UnknownPost, LiveWalk, example(), post, 11)

    def test_wrong_oil(self):
        for oil in (*NO_NUMBERS, -1, 11, 10 ** 20):
            with self.subTest(repr(oil)):
                raised(InvalidNumber, LiveWalk, example(), 2, oil)

    def test_properties_are_not_assigned(self):
        live = LiveWalk(example(), 0, 5)
        for name in ("way_now", "post_now", "oil_now", "walked", "history"):
            with self.subTest(name), self.assertRaises(AttributeError):
                setattr(live, name, 1)


class Failing(unittest.TestCase):
    def check_unchanged(self, live, error, call, *arguments):
        before = shown_whole(live)
        caught = raised(error, call, *arguments)
        self.assertEqual(shown_whole(live), before)
        return caught


class Walking(Failing):
    def test_no_legs(self):
        live = LiveWalk(example(), 1, 0)
        self.assertEqual(live.walk(0), [])
        self.assertEqual(shown(live), (example(), 1, 0, 0, [("walk", 0)]))
        self.assertEqual([live.undo(), live.history], [True, []])

    def test_a_rest_of_0(self):
        live = LiveWalk(example(), 1, 5)
        self.assertEqual(live.walk(1), [0])
        self.assertEqual((live.post_now, live.oil_now, live.walked), (2, 0, 1))
        self.assertEqual(live.walk(1), [4])
        self.assertEqual((live.post_now, live.oil_now, live.walked), (0, 4, 2))

    def test_at_most_1000_legs(self):
        live = LiveWalk(Way(9, (3, 2), (2, 3)), 0, 3)
        self.assertEqual(live.walk(1000), [4, 3] * 500)
        self.assertEqual((live.post_now, live.walked), (0, 1000))
        self.assertEqual(live.walk(999), ([4, 3] * 500)[:999])
        self.assertEqual((live.post_now, live.walked), (1, 1999))
        self.check_unchanged(live, InvalidNumber, live.walk, 1001)

    def test_wrong_legs(self):
        live = LiveWalk(example(), 0, 5)
        live.walk(1)
        for legs in (*NO_NUMBERS, -1, 1001, 10 ** 20):
            with self.subTest(repr(legs)):
                self.check_unchanged(live, InvalidNumber, live.walk, legs)
        raised(InvalidNumber, LiveWalk(Way(5, (0, 9)), 0, 0).walk, 1001)

    def test_goes_out(self):
        live = LiveWalk(example(), 0, 5)
        live.walk(3)
        live.spill(4)
        live.undo()
        live.spill(5)
        caught = self.check_unchanged(live, GoesOut, live.walk, 1000)
        self.assertEqual((caught.legs, caught.steps), (1, 1))
        self.assertEqual(live.walk(1), [1])
        caught = self.check_unchanged(live, GoesOut, live.walk, 1)
        self.assertEqual((caught.legs, caught.steps), (0, 1))
        caught = self.check_unchanged(live, GoesOut, live.walk, 2)
        self.assertEqual((caught.legs, caught.steps), (0, 1))

    def test_goes_out_as_walks_do(self):
        for capacity, rows in some_rows(41, 300, 6, 5, 4, 9):
            way = Way(capacity, *rows)
            for post in range(len(rows)):
                live = LiveWalk(way, post, capacity)
                told, steps = arrivals(capacity, rows, post, capacity, 100)
                if steps is None:
                    self.assertEqual(live.walk(100), told)
                else:
                    caught = self.check_unchanged(live, GoesOut, live.walk, 100)
                    self.assertEqual((caught.legs, caught.steps), goes_out(way, post, capacity))
                    self.assertEqual((caught.legs, caught.steps), (len(told), steps))

    def test_the_list_may_be_modified(self):
        live = LiveWalk(example(), 0, 5)
        live.walk(3).clear()
        self.assertEqual(shown(live), (example(), 0, 5, 3, [("walk", 3)]))

    def test_great_numbers(self):
        live = LiveWalk(Way(BILLION, (BILLION, BILLION - 1), (BILLION, BILLION)), 0, BILLION)
        self.assertEqual(live.walk(4), [1, 0, 1, 0])


class Spilling(Failing):
    def test_spilling(self):
        live = LiveWalk(example(), 1, 7)
        self.assertEqual([live.spill(0), live.spill(3), live.oil_now, live.spill(4), live.oil_now], [7, 4, 4, 0, 0])
        self.assertEqual(shown(live), (example(), 1, 0, 0, [("spill", 0), ("spill", 3), ("spill", 4)]))

    def test_wrong_oil(self):
        live = LiveWalk(example(), 1, 7)
        live.spill(2)
        live.undo()
        for oil in (*NO_NUMBERS, -1, 8, 10, 10 ** 20):
            with self.subTest(repr(oil)):
                self.check_unchanged(live, InvalidNumber, live.spill, oil)
        self.assertEqual(live.spill(7), 0)
        self.check_unchanged(live, InvalidNumber, live.spill, 1)


class Refilling(Failing):
    def test_refilling(self):
        live = LiveWalk(example(), 0, 5)
        self.assertEqual([live.refill(1, 9), live.refill(1, 8), live.refill(0, 0), live.oil_now], [0, 9, 4, 5])
        self.assertEqual(live.way_now, Way(10, (0, 3), (8, 5), (6, 2)))
        self.assertEqual([live.walk(3), live.walk(3)], [[2, 5, 8], [5, 5, 8]])
        self.assertEqual(live.history[:3], [("refill", 1, 9), ("refill", 1, 8), ("refill", 0, 0)])

    def test_the_limits_of_the_oil(self):
        live = LiveWalk(example(), 0, 5)
        self.assertEqual([live.refill(2, BILLION), live.refill(2, 0), live.refill(2, 6)], [6, BILLION, 0])
        self.check_unchanged(live, InvalidNumber, live.refill, 2, BILLION + 1)

    def test_unknown_posts(self):
        live = LiveWalk(example(), 0, 5)
        live.walk(2)
        for post in (*NO_NUMBERS, -1, 3, 10 ** 20):
            with self.subTest(repr(post)):
                self.check_unchanged(live, UnknownPost, live.refill, post, 5)
                self.check_unchanged(live, UnknownPost, live.refill, post, -1)

    def test_wrong_oil(self):
        live = LiveWalk(example(), 0, 5)
        live.walk(2)
        for oil in (*NO_NUMBERS, -1, BILLION + 1, 10 ** 20):
            with self.subTest(repr(oil)):
                self.check_unchanged(live, InvalidNumber, live.refill, 2, oil)

    def test_the_way_itself_does_not_change(self):
        way = example()
        live = LiveWalk(way, 0, 5)
        live.refill(0, 9)
        live.trade(99)
        self.assertEqual(way, example())


class Trading(Failing):
    def test_trading(self):
        live = LiveWalk(example(), 1, 7)
        self.assertEqual([live.trade(8), live.oil_now, live.way_now], [0, 7, Way(8, *example().posts)])
        self.assertEqual([live.trade(7), live.oil_now], [0, 7])
        self.assertEqual([live.trade(4), live.oil_now, live.way_now.capacity], [3, 4, 4])
        self.assertEqual([live.trade(BILLION), live.oil_now, live.way_now.capacity], [0, 4, BILLION])
        self.assertEqual([live.trade(1), live.oil_now, live.post_now, live.walked], [3, 1, 1, 0])
        self.assertEqual(live.history, [("trade", capacity) for capacity in (8, 7, 4, BILLION, 1)])

    def test_legs_may_be_too_long_for_it(self):
        live = LiveWalk(example(), 0, 5)
        self.assertEqual(live.trade(4), 1)
        caught = self.check_unchanged(live, GoesOut, live.walk, 2)
        self.assertEqual((caught.legs, caught.steps), (1, 1))
        live.trade(2)
        caught = self.check_unchanged(live, GoesOut, live.walk, 1)
        self.assertEqual((caught.legs, caught.steps), (0, 2))

    def test_wrong_capacities(self):
        live = LiveWalk(example(), 1, 7)
        live.spill(1)
        for capacity in (*NO_NUMBERS, 0, -1, BILLION + 1, 10 ** 20):
            with self.subTest(repr(capacity)):
                self.check_unchanged(live, InvalidNumber, live.trade, capacity)


class History(unittest.TestCase):
    def test_the_list_is_new_for_each_reading(self):
        live = LiveWalk(example(), 0, 5)
        live.walk(1)
        live.history.append(("walk", 7))
        live.history.clear()
        self.assertEqual(live.history, [("walk", 1)])
        self.assertIsInstance(live.history, list)
        self.assertIsInstance(live.history[0], tuple)

    def test_a_list_that_was_read_stays(self):
        live = LiveWalk(example(), 0, 5)
        live.walk(1)
        told = live.history
        live.walk(1)
        live.undo()
        live.undo()
        self.assertEqual(told, [("walk", 1)])

    def test_it_can_be_applied(self):
        live = LiveWalk(example(), 0, 5)
        live.apply(("walk", 2), ("refill", 2, 9), ("spill", 1), ("trade", 8), ("walk", 1))
        again = LiveWalk(example(), 0, 5)
        again.apply(*live.history)
        self.assertEqual(shown_whole(again), shown_whole(live))


class UndoAndRedo(unittest.TestCase):
    def test_each_operation(self):
        for operation in (("walk", 2), ("walk", 0), ("spill", 2), ("spill", 0), ("refill", 1, 7), ("trade", 3)):
            live = LiveWalk(example(), 0, 5)
            live.apply(operation)
            after = shown(live)
            self.assertEqual(after[4], [operation])
            self.assertIs(live.undo(), True)
            self.assertEqual(shown(live), (example(), 0, 5, 0, []))
            self.assertIs(live.undo(), False)
            self.assertIs(live.redo(), True)
            self.assertEqual(shown(live), after)
            self.assertIs(live.redo(), False)
            self.assertEqual(shown(live), after)

    def test_several_are_executed_once_more(self):
        live = LiveWalk(example(), 0, 5)
        live.apply(("walk", 1), ("spill", 1), ("walk", 1))
        after = shown(live)
        self.assertEqual([live.undo(), live.undo(), live.undo(), live.undo()], [True, True, True, False])
        self.assertEqual([live.redo(), live.history], [True, [("walk", 1)]])
        self.assertEqual([live.redo(), live.redo(), live.redo()], [True, True, False])
        self.assertEqual(shown(live), after)

    def test_an_operation_forgets_what_was_undone(self):
        for operation in (("walk", 1), ("walk", 0), ("spill", 0), ("refill", 0, 4), ("trade", 10)):
            live = LiveWalk(example(), 0, 5)
            live.apply(("walk", 1), ("spill", 1))
            live.undo()
            live.undo()
            live.apply(operation)
            self.assertIs(live.redo(), False)
            self.assertEqual(live.history, [operation])

    def test_nothing_executed_forgets_nothing(self):
        live = LiveWalk(example(), 1, 4)
        live.spill(1)
        live.undo()
        live.apply()
        raised(InvalidNumber, live.spill, 6)
        raised(InvalidNumber, live.walk, 1001)
        raised(GoesOut, live.walk, 7)
        raised(UnknownPost, live.refill, 3, 1)
        raised(InvalidNumber, live.trade, 0)
        live.oil_with(("spill", 3))
        self.assertIs(live.redo(), True)
        self.assertEqual(live.history, [("spill", 1)])


class Applying(Failing):
    def test_results(self):
        live = LiveWalk(example(), 0, 5)
        self.assertEqual(live.apply(), [])
        found = live.apply(("walk", 3), ("spill", 2), ("refill", 0, 1), ("trade", 3))
        self.assertEqual(found, [[6, 1, 5], 3, 4, 0])
        self.assertEqual(live.history, [("walk", 3), ("spill", 2), ("refill", 0, 1), ("trade", 3)])

    def test_no_operations(self):
        wrong = [
            None, True, 1, "walk", "", [], ["walk", 1], (), ("walk",), ("walk", 1, 1), ("spill",), ("spill", 1, 2),
            ("refill",), ("refill", 1), ("refill", 1, 2, 3), ("trade",), ("trade", 1, 1), ("undo",), ("redo",),
            ("apply",), ("apply", ("walk", 1)), ("oil_with", ("walk", 1)), ("Walk", 1), ("walks", 1), ("", 1),
            (None, 1), (1, 1), (1,), (True, 1), (["walk"], 1), (("walk",), 1), (("walk", 1),), ("__init__", 1),
            ("_execute", ("walk", 1)), ("history",), ("oil_now",), ("replay", 1), ({}, 1), (b"walk", 1),
        ]
        live = LiveWalk(example(), 0, 5)
        live.apply(("walk", 1), ("spill", 1))
        live.undo()
        for operation in wrong:
            with self.subTest(repr(operation)):
                for index in range(3):
                    caught = self.check_unchanged(
                        live, InvalidOperation, live.apply, *[("walk", 0)] * index, operation, ("walk", 0)
                    )
                    self.assertEqual(caught.index, index)

    def test_the_first_one_is_told(self):
        live = LiveWalk(example(), 0, 5)
        caught = raised(InvalidOperation, live.apply, ("walk", 1), ("walk",), None, ("spill",))
        self.assertEqual(caught.index, 1)

    def test_arguments_are_looked_at_later(self):
        live = LiveWalk(example(), 0, 5)
        live.spill(1)
        live.undo()
        caught = self.check_unchanged(live, InvalidOperation, live.apply, ("spill", -1), ("refill", 9, 9), None)
        self.assertEqual(caught.index, 2)
        self.check_unchanged(live, InvalidNumber, live.apply, ("spill", None), ("refill", 9, 9))
        self.check_unchanged(live, UnknownPost, live.apply, ("refill", "0", None), ("spill", None))

    def test_an_operation_raises(self):
        live = LiveWalk(example(), 0, 5)
        live.apply(("walk", 3), ("spill", 1), ("walk", 1))
        live.undo()
        self.check_unchanged(live, InvalidNumber, live.apply, ("spill", 3), ("spill", 2))
        self.check_unchanged(live, UnknownPost, live.apply, ("spill", 3), ("refill", 3, 0))
        self.check_unchanged(live, InvalidNumber, live.apply, ("refill", 0, 9), ("trade", 3), ("spill", 4))
        caught = self.check_unchanged(live, GoesOut, live.apply, ("walk", 1), ("spill", 5), ("walk", 3))
        self.assertEqual((caught.legs, caught.steps), (0, 0))
        self.assertEqual([live.redo(), live.history], [True, [("walk", 3), ("spill", 1), ("walk", 1)]])

    def test_arguments_may_be_anything(self):
        live = LiveWalk(example(), 0, 5)
        live.walk(1)
        for value in NO_NUMBERS:
            with self.subTest(repr(value)):
                self.check_unchanged(live, InvalidNumber, live.apply, ("walk", 0), ("walk", value))
                self.check_unchanged(live, InvalidNumber, live.apply, ("walk", 0), ("spill", value))
                self.check_unchanged(live, InvalidNumber, live.apply, ("walk", 0), ("refill", 0, value))
                self.check_unchanged(live, UnknownPost, live.apply, ("walk", 0), ("refill", value, value))
                self.check_unchanged(live, InvalidNumber, live.apply, ("walk", 0), ("trade", value))

    def test_the_results_may_be_modified(self):
        live = LiveWalk(example(), 0, 5)
        found = live.apply(("walk", 3))
        found[0].append(9)
        found.clear()
        self.assertEqual(shown(live), (example(), 0, 5, 3, [("walk", 3)]))


class Replaying(unittest.TestCase):
    def test_replaying(self):
        operations = [("walk", 2), ("refill", 2, 9), ("spill", 1), ("trade", 8), ("walk", 1)]
        told = list(operations)
        live = LiveWalk.replay(example(), 0, 5, operations)
        self.assertIsInstance(live, LiveWalk)
        self.assertEqual(operations, told)
        operations.clear()
        self.assertEqual(live.history, told)
        again = LiveWalk(example(), 0, 5)
        again.apply(*told)
        self.assertEqual(shown_whole(live), shown_whole(again))
        self.assertIs(live.redo(), False)

    def test_no_operations(self):
        self.assertEqual(shown(LiveWalk.replay(example(), 2, 3, [])), (example(), 2, 3, 0, []))

    def test_errors(self):
        raised(UnknownPost, LiveWalk.replay, example(), 3, 11, [None])
        raised(InvalidNumber, LiveWalk.replay, example(), 0, 11, [None])
        caught = raised(InvalidOperation, LiveWalk.replay, example(), 0, 5, [("spill", 6), ("walk", 1), ["walk", 1]])
        self.assertEqual(caught.index, 2)
        raised(InvalidNumber, LiveWalk.replay, example(), 0, 5, [("walk", 1), ("spill", 7)])
        caught = raised(GoesOut, LiveWalk.replay, example(), 0, 5, [("spill", 5), ("walk", 1), ("walk", 2)])
        self.assertEqual((caught.legs, caught.steps), (0, 1))


class Blocks(unittest.TestCase):
    def prepared(self):
        live = LiveWalk(example(), 0, 5)
        live.apply(("walk", 1), ("spill", 1), ("walk", 1))
        live.undo()
        return live

    def test_it_is_as_before_at_the_end(self):
        live = self.prepared()
        before = shown_whole(live)
        with live:
            self.assertEqual(shown(live), before[0])
            live.apply(("spill", 1), ("refill", 0, 7), ("trade", 99), ("walk", 0))
            self.assertEqual((live.oil_now, live.way_now.capacity, live.way_now[0]), (4, 99, (7, 3)))
        self.assertEqual(shown_whole(live), before)

    def test_undo_and_redo_within(self):
        for calls in ("u", "uu", "uuu", "r", "ru", "rr", "uuurrr", "s", "su", "suuu", "us", "uusu", "rs"):
            live = self.prepared()
            before = shown_whole(live)
            with live:
                for call in calls:
                    {"u": live.undo, "r": live.redo, "s": lambda: live.spill(0)}[call]()
            with self.subTest(calls):
                self.assertEqual(shown_whole(live), before)

    def test_after_an_error(self):
        live = self.prepared()
        before = shown_whole(live)
        for error in (KeyError, ZeroDivisionError, WalkError, KeyboardInterrupt):
            with self.subTest(error.__name__), self.assertRaises(error):
                with live:
                    live.spill(1)
                    raise error("left")
            self.assertEqual(shown_whole(live), before)

    def test_after_an_error_of_an_operation(self):
        live = self.prepared()
        before = shown_whole(live)
        with self.assertRaises(GoesOut):
            with live:
                live.refill(2, 0)
                live.spill(1)
                live.walk(99)
        self.assertEqual(shown_whole(live), before)

    def test_after_return_and_break(self):
        def left(live):
            with live:
                live.spill(2)
                return live.oil_now

        live = self.prepared()
        before = shown_whole(live)
        self.assertEqual(left(live), 3)
        self.assertEqual(shown_whole(live), before)
        for _ in range(3):
            with live:
                live.spill(2)
                break
        self.assertEqual(shown_whole(live), before)

    def test_a_block_within_another_one(self):
        live = self.prepared()
        before = shown_whole(live)
        with live:
            live.spill(1)
            told = shown(live)
            with self.assertRaises(AlreadyOpen):
                with live:
                    live.spill(4)
            self.assertEqual(shown(live), told)
            self.assertEqual([live.undo(), shown(live)], [True, before[0]])
            raised(AlreadyOpen, live.__enter__)
        self.assertEqual(shown_whole(live), before)

    def test_an_error_that_leaves_both_blocks(self):
        live = self.prepared()
        before = shown_whole(live)
        with self.assertRaises(AlreadyOpen):
            with live:
                live.spill(1)
                with live:
                    live.spill(1)
        self.assertEqual(shown_whole(live), before)

    def test_one_block_after_another(self):
        live = self.prepared()
        for _ in range(3):
            with live:
                self.assertEqual(live.spill(1), 4)

    def test_blocks_of_other_live_walks(self):
        one, other = self.prepared(), self.prepared()
        before = shown_whole(one)
        with one:
            one.spill(1)
            with other:
                other.spill(2)
                self.assertEqual((one.oil_now, other.oil_now), (4, 3))
            self.assertEqual((one.oil_now, other.oil_now), (4, 5))
            other.spill(5)
        self.assertEqual((one.oil_now, other.oil_now), (5, 0))
        self.assertEqual(shown_whole(one), before)

    def test_apply_that_raises_within(self):
        live = self.prepared()
        before = shown_whole(live)
        with live:
            live.spill(1)
            told = shown(live)
            raised(InvalidNumber, live.apply, ("spill", 1), ("spill", 9))
            self.assertEqual(shown(live), told)
        self.assertEqual(shown_whole(live), before)


class OilWith(Failing):
    def test_no_operations(self):
        self.assertEqual(LiveWalk(example(), 0, 5).oil_with(), 5)

    def test_everything_is_as_before(self):
        live = LiveWalk(example(), 0, 5)
        live.apply(("walk", 1), ("spill", 1), ("walk", 1))
        live.undo()
        before = shown_whole(live)
        self.assertEqual(live.oil_with(("walk", 2), ("refill", 0, 9), ("walk", 1), ("trade", 6)), 6)
        self.assertEqual(shown_whole(live), before)

    def test_errors(self):
        live = LiveWalk(example(), 0, 5)
        live.apply(("walk", 1), ("spill", 1))
        live.undo()
        caught = self.check_unchanged(live, InvalidOperation, live.oil_with, ("spill", 1), ("spill",))
        self.assertEqual(caught.index, 1)
        self.check_unchanged(live, InvalidNumber, live.oil_with, ("spill", 1), ("spill", 6))
        self.check_unchanged(live, UnknownPost, live.oil_with, ("spill", 1), ("refill", 3, 6))
        caught = self.check_unchanged(live, GoesOut, live.oil_with, ("spill", 1), ("refill", 2, 5), ("walk", 4))
        self.assertEqual((caught.legs, caught.steps), (3, 4))

    def test_within_a_block(self):
        live = LiveWalk(example(), 0, 5)
        with live:
            live.spill(1)
            told = shown(live)
            raised(AlreadyOpen, live.oil_with)
            raised(AlreadyOpen, live.oil_with, ("spill", 1))
            raised(AlreadyOpen, live.oil_with, None)
            self.assertEqual(shown(live), told)
        self.assertEqual(live.oil_with(("spill", 1)), 4)


class Model:
    """A live walk that keeps all states, each with the operation that led to it."""

    def __init__(self, capacity, rows, post, oil):
        self.states = [(capacity, rows, post, oil, 0)]
        self.operations = []
        self.now = 0

    def copied(self):
        other = Model(*self.states[0][:4])
        other.states = list(self.states)
        other.operations = list(self.operations)
        other.now = self.now
        return other

    def take_over(self, other):
        self.states, self.operations, self.now = list(other.states), list(other.operations), other.now

    def shown(self):
        capacity, rows, post, oil, legs = self.states[self.now]
        return (Way(capacity, *rows), post, oil, legs, self.operations[:self.now])

    def execute(self, operation):
        state, result = after(self.states[self.now], *operation)
        if not isinstance(result, str):
            self.states = self.states[:self.now + 1] + [state]
            self.operations = self.operations[:self.now] + [operation]
            self.now += 1
        return result

    def undo(self):
        self.now -= self.now > 0
        return self.states[self.now]

    def apply(self, operations):
        before = self.copied()
        results = []
        for operation in operations:
            results.append(self.execute(operation))
            if isinstance(results[-1], str):
                self.take_over(before)
                return results[-1]
        return results


def after(state, name, *told):
    """Return the next state and the result, or what is raised as a text."""
    capacity, rows, post, oil, legs = state
    if not all(isinstance(value, int) and not isinstance(value, bool) for value in told):
        return state, "UnknownPost" if name == "refill" and not isinstance(told[0], int) else "InvalidNumber"
    if name == "walk":
        if not 0 <= told[0] <= 1000:
            return state, "InvalidNumber"
        found, steps = arrivals(capacity, rows, post, oil, told[0])
        if steps is not None:
            return state, f"GoesOut {len(found)} {steps}"
        left = found[-1] if found else oil
        return (capacity, rows, (post + told[0]) % len(rows), left, legs + told[0]), found
    if name == "spill":
        if not 0 <= told[0] <= oil:
            return state, "InvalidNumber"
        return (capacity, rows, post, oil - told[0], legs), oil - told[0]
    if name == "refill":
        at, there = told
        if not 0 <= at < len(rows):
            return state, "UnknownPost"
        if not 0 <= there <= BILLION:
            return state, "InvalidNumber"
        changed = rows[:at] + ((there, rows[at][1]),) + rows[at + 1:]
        return (capacity, changed, post, oil, legs), rows[at][0]
    if not 1 <= told[0] <= BILLION:
        return state, "InvalidNumber"
    return (told[0], rows, post, min(oil, told[0]), legs), max(0, oil - told[0])


def tried(call, *arguments):
    """Return the result, or what is raised as a text."""
    try:
        return call(*arguments)
    except GoesOut as error:
        return f"GoesOut {error.legs} {error.steps}"
    except WalkError as error:
        return error.__class__.__name__


def some_operation(told, rows):
    name = told.choice(("walk", "walk", "spill", "refill", "trade"))
    if name == "walk":
        return (name, told.choice((0, 1, 1, 2, 3, 5, 8, -1, 1000, 1001)))
    if name == "spill":
        return (name, told.choice((0, 0, 1, 1, 2, 3, 5, -1, 99)))
    if name == "refill":
        return (name, told.randint(-1, len(rows)), told.choice((0, 1, 2, 4, 5, 9, BILLION, BILLION + 1, -1)))
    return (name, told.choice((5, 6, 8, 9, 12, BILLION, 0, BILLION + 1, 3)))


class AgainstTheModel(unittest.TestCase):
    def compare(self, live, model):
        self.assertEqual(shown(live), model.shown())

    def compare_whole(self, live, model):
        """Compare also what undo and redo would do."""
        self.compare(live, model)
        undone = model.now
        for at in range(undone - 1, -1, -1):
            self.assertIs(live.undo(), True)
            model.now = at
            self.compare(live, model)
        self.assertIs(live.undo(), False)
        for at in range(1, len(model.states)):
            self.assertIs(live.redo(), True)
            model.now = at
            self.compare(live, model)
        self.assertIs(live.redo(), False)
        while model.now > undone:
            live.undo()
            model.undo()
        self.compare(live, model)

    def do_something(self, told, live, model, rows):
        choice = told.randrange(10)
        if choice < 4:
            operation = some_operation(told, rows)
            self.assertEqual(tried(getattr(live, operation[0]), *operation[1:]), model.execute(operation))
        elif choice < 6:
            self.assertIs(live.undo(), model.now > 0)
            model.undo()
        elif choice < 8:
            more = model.now + 1 < len(model.states)
            self.assertIs(live.redo(), more)
            model.now += more
        else:
            operations = [some_operation(told, rows) for _ in range(told.randrange(4))]
            self.assertEqual(tried(live.apply, *operations), model.apply(operations))

    def do_in_a_block(self, told, live, model, rows):
        before = model.copied()
        try:
            with live:
                for _ in range(told.randrange(6)):
                    self.do_something(told, live, model, rows)
                    self.compare(live, model)
                self.assertEqual(tried(live.oil_with), "AlreadyOpen")
                self.compare_whole(live, model)
                if told.randrange(2):
                    raise KeyError("left")
        except KeyError:
            pass
        model.take_over(before)

    def look_ahead(self, told, live, model, rows):
        operations = [some_operation(told, rows) for _ in range(told.randrange(4))]
        ahead = model.copied()
        results = ahead.apply(operations)
        result = results if isinstance(results, str) else ahead.states[ahead.now][3]
        self.assertEqual(tried(live.oil_with, *operations), result)

    def test_many_live_walks(self):
        told = random.Random(42)
        for capacity, rows in some_rows(43, 400, 5, 6, 3, 12):
            post = told.randrange(len(rows))
            oil = told.randint(0, capacity)
            live, model = LiveWalk(Way(capacity, *rows), post, oil), Model(capacity, rows, post, oil)
            for _ in range(30):
                choice = told.randrange(8)
                if choice == 0:
                    self.do_in_a_block(told, live, model, rows)
                elif choice == 1:
                    self.look_ahead(told, live, model, rows)
                else:
                    self.do_something(told, live, model, rows)
                self.compare(live, model)
                if told.randrange(4) == 0:
                    self.compare_whole(live, model)
            again = LiveWalk.replay(Way(capacity, *rows), post, oil, live.history)
            self.assertEqual(shown(again), shown(live))
            self.assertIs(again.redo(), False)

    def test_the_same_calls_give_the_same_results(self):
        for seed in range(5):
            found = []
            for _ in range(2):
                told = random.Random(seed)
                live = LiveWalk(example(), 0, 5)
                results = [tried(live.apply, some_operation(told, example().posts)) for _ in range(50)]
                found.append((results, shown(live)))
            self.assertEqual(found[0], found[1])


if __name__ == "__main__":
    unittest.main()
