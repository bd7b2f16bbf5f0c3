import random
import unittest

from helpers import BILLION, NO_NUMBERS, arrivals, raised, some_rows, ways_of_all_sizes
from oilwalk.errors import InvalidNumber, InvalidWay, NotationError, UnknownPost
from oilwalk.notation import format_way, log_text, parse_way
from oilwalk.ways import Way

TEXT = "lantern 10\npost 4 3\npost 0 5\npost 6 2"


def example():
    return Way(10, (4, 3), (0, 5), (6, 2))


def wrong_at(text):
    caught = raised(NotationError, parse_way, text)
    return (caught.row, caught.word)


def invalid_part(text):
    caught = raised(InvalidWay, parse_way, text)
    return (caught.part, caught.index)


class InterfaceExamples(unittest.TestCase):
    def test_ways(self):
        way = Way(10, (4, 3), (0, 5), (6, 2))
        found = [format_way(way), parse_way("lantern 7\npost 1 2").posts]
        self.assertEqual(found, ["lantern 10\npost 4 3\npost 0 5\npost 6 2", ((1, 2),)])

    def test_a_missing_word(self):
        self.assertEqual(wrong_at("lantern 7\npost 1"), (1, 2))

    def test_log(self):
        found = log_text(example(), 0, 0, 5)
        self.assertEqual(found, "  0  0 ____________0\n  1  1 ____________1\n  2 -- ____________1")


class Formatting(unittest.TestCase):
    def test_one_post(self):
        self.assertEqual(format_way(Way(1, (0, 1))), "lantern 1\npost 0 1")

    def test_great_numbers(self):
        self.assertEqual(format_way(Way(BILLION, (BILLION, BILLION))), "lantern 1000000000\npost 1000000000 1000000000")

    def test_twelve_posts(self):
        rows = [(at, at + 1) for at in range(12)]
        told = ["lantern 30"] + [f"post {at} {at + 1}" for at in range(12)]
        self.assertEqual(format_way(Way(30, *rows)).split("\n"), told)

    def test_the_way_stays(self):
        way = example()
        self.assertEqual([format_way(way), format_way(way)], [TEXT, TEXT])
        self.assertEqual(way, example())


class Parsing(unittest.TestCase):
    def test_there_and_back_again(self):
        for way in ways_of_all_sizes(61):
            text = format_way(way)
            again = parse_way(text)
            self.assertEqual(again, way)
            self.assertIsInstance(again, Way)
            self.assertEqual(format_way(again), text)

    def test_values(self):
        way = parse_way(TEXT)
        self.assertEqual((way.capacity, way.posts), (10, ((4, 3), (0, 5), (6, 2))))
        self.assertEqual(parse_way(TEXT), parse_way(TEXT))

    def test_no_rows_and_words(self):
        self.assertEqual(wrong_at(""), (0, 0))
        self.assertEqual(wrong_at(" "), (0, 0))
        self.assertEqual(wrong_at("\n"), (0, 0))
        self.assertEqual(wrong_at("\n" + TEXT), (0, 0))

    def test_missing_words(self):
        self.assertEqual(wrong_at("lantern"), (0, 1))
        self.assertEqual(wrong_at("lantern\npost 1 2"), (0, 1))
        self.assertEqual(wrong_at("lantern 7\npost"), (1, 1))
        self.assertEqual(wrong_at("lantern 7\npost 1 2\npost 1\npost"), (2, 2))

    def test_superfluous_words(self):
        self.assertEqual(wrong_at("lantern 7 7\npost 1 2"), (0, 2))
        self.assertEqual(wrong_at("lantern 7 7 7\npost 1 2"), (0, 2))
        self.assertEqual(wrong_at("lantern 7\npost 1 2 3\npost 1 2"), (1, 3))
        self.assertEqual(wrong_at("lantern 7\npost 1 2 3 4 5"), (1, 3))
        self.assertEqual(wrong_at("lantern 7\npost 1 2 post 1 2"), (1, 3))

    def test_empty_words(self):
        self.assertEqual(wrong_at(" lantern 7\npost 1 2"), (0, 0))
        self.assertEqual(wrong_at("lantern  7\npost 1 2"), (0, 1))
        self.assertEqual(wrong_at("lantern 7 \npost 1 2"), (0, 2))
        self.assertEqual(wrong_at("lantern "), (0, 1))
        self.assertEqual(wrong_at("lantern 7\n post 1 2"), (1, 0))
        self.assertEqual(wrong_at("lantern 7\npost  1 2"), (1, 1))
        self.assertEqual(wrong_at("lantern 7\npost 1  2"), (1, 2))
        self.assertEqual(wrong_at("lantern 7\npost 1 "), (1, 2))
        self.assertEqual(wrong_at("lantern 7\npost 1 2 "), (1, 3))
        self.assertEqual(wrong_at("lantern 7\npost 1 2  "), (1, 3))

    def test_missing_rows(self):
        self.assertEqual(wrong_at("post 4 3\npost 0 5"), (0, 0))
        self.assertEqual(invalid_part("lantern 10"), ("posts", 0))

    def test_superfluous_rows(self):
        self.assertEqual(wrong_at(TEXT + "\n"), (4, 0))
        self.assertEqual(wrong_at(TEXT + "\n\n"), (4, 0))
        self.assertEqual(wrong_at("lantern 7\n\npost 1 2"), (1, 0))
        self.assertEqual(wrong_at("lantern 7\nlantern 7\npost 1 2"), (1, 0))
        self.assertEqual(wrong_at(TEXT + "\nlantern 7"), (4, 0))
        self.assertEqual(wrong_at("lantern 7\n"), (1, 0))

    def test_other_names(self):
        for name in ("Lantern", "LANTERN", "lanterns", "lanter", "post", "7", "lantern:", "\tlantern", "lantern\t"):
            with self.subTest(name):
                self.assertEqual(wrong_at(f"{name} 7\npost 1 2"), (0, 0))
        for name in ("Post", "POST", "posts", "pos", "lantern", "1", "post,", "post\t", "\ufeffpost"):
            with self.subTest(name):
                self.assertEqual(wrong_at(f"lantern 7\npost 1 2\n{name} 1 2"), (2, 0))

    def test_other_blanks_and_line_ends(self):
        self.assertEqual(wrong_at("lantern\t7\npost 1 2"), (0, 0))
        self.assertEqual(wrong_at("lantern 7\r\npost 1 2"), (0, 1))
        self.assertEqual(wrong_at("lantern 7\rpost 1 2"), (0, 1))
        self.assertEqual(wrong_at("lantern 7\npost 1 2\r\npost 1 2"), (1, 2))
        self.assertEqual(wrong_at("lantern 7\u2028post 1 2"), (0, 1))
        self.assertEqual(wrong_at("lantern 7\x0bpost 1 2"), (0, 1))
        self.assertEqual(wrong_at("lantern 7\x0cpost 1 2"), (0, 1))
        self.assertEqual(wrong_at("lantern\u00a07\npost 1 2"), (0, 0))

    def test_what_is_no_number(self):
        words = (
            "x", "-1", "+1", "-0", "1.0", "1e3", "1_0", "0x1", "1,000", "--", "None", "True", "'1'", "1\t", "\t1",
            "00", "01", "007", "0000000000", "0123456789", "00000000001", "10000000000", "99999999999", "1" * 100,
            "\u0661", "\u0663\u0664", "\u00b2", "1\u00b2", "\u2460", "\uff11", "\u0967", "1\u200b", "\u00bd",
        )
        for word in words:
            with self.subTest(repr(word)):
                self.assertEqual(wrong_at(f"lantern {word}\npost 1 2"), (0, 1))
                self.assertEqual(wrong_at(f"lantern 7\npost {word} 2\npost 1 2"), (1, 1))
                self.assertEqual(wrong_at(f"lantern 7\npost 1 2\npost 1 {word}"), (2, 2))

    def test_numbers_have_at_most_ten_digits(self):
        self.assertEqual(parse_way("lantern 1000000000\npost 1000000000 1000000000"), Way(BILLION, (BILLION, BILLION)))
        for number in ("1000000001", "9999999999"):
            self.assertEqual(invalid_part(f"lantern {number}\npost 1 2"), ("capacity", 0))
            self.assertEqual(invalid_part(f"lantern 7\npost 1 2\npost {number} 2"), ("posts", 1))
            self.assertEqual(invalid_part(f"lantern 7\npost 1 {number}"), ("posts", 0))

    def test_single_zeros_are_numbers(self):
        self.assertEqual(parse_way("lantern 7\npost 0 1"), Way(7, (0, 1)))
        self.assertEqual(invalid_part("lantern 0\npost 1 2"), ("capacity", 0))
        self.assertEqual(invalid_part("lantern 7\npost 1 2\npost 1 0"), ("posts", 1))

    def test_the_first_row_then_the_first_word(self):
        self.assertEqual(wrong_at("lantern 7\npost x y z\nx"), (1, 1))
        self.assertEqual(wrong_at("lantern 7\nx y\npost"), (1, 0))
        self.assertEqual(wrong_at("lantern x 7\nx"), (0, 1))
        self.assertEqual(wrong_at("x"), (0, 0))
        self.assertEqual(wrong_at("lantern 7\npost 1 x 3"), (1, 2))

    def test_invalid_ways_come_last(self):
        self.assertEqual(wrong_at("lantern 0\npost 1 0\npost 1 2 "), (2, 3))
        self.assertEqual(wrong_at("lantern 9999999999\npost"), (1, 1))
        self.assertEqual(wrong_at("\n".join(["lantern 7"] + ["post 1 2"] * 13 + ["post 1"])), (14, 2))
        self.assertEqual(invalid_part("lantern 0\npost 1 0"), ("capacity", 0))
        self.assertEqual(invalid_part("lantern 0"), ("capacity", 0))

    def test_numbers_of_posts(self):
        for many in range(1, 13):
            text = "\n".join(["lantern 7"] + ["post 1 2"] * many)
            self.assertEqual(parse_way(text), Way.even(7, many, 1, 2))
        self.assertEqual(invalid_part("lantern 7"), ("posts", 0))
        self.assertEqual(invalid_part("\n".join(["lantern 7"] + ["post 1 2"] * 13)), ("posts", 12))
        self.assertEqual(invalid_part("\n".join(["lantern 7"] + ["post 1 2"] * 40)), ("posts", 12))
        self.assertEqual(invalid_part("\n".join(["lantern 7"] + ["post 1 0"] * 13)), ("posts", 0))

    def test_no_texts(self):
        for value in (*NO_NUMBERS, 7, -1, TEXT.encode(), ["lantern 7", "post 1 2"], ("lantern 7", "post 1 2")):
            if not isinstance(value, str):
                with self.subTest(repr(value)):
                    self.assertEqual(wrong_at(value), (0, 0))


def first_fault(text):
    """Tell the row and the word as the document says it, or None if the text has the form."""
    for row, line in enumerate(text.split("\n")):
        names = ["post", None, None] if row else ["lantern", None]
        words = line.split(" ")
        for at in range(max(len(words), len(names))):
            if at >= min(len(words), len(names)):
                return (row, at)
            if names[at] is not None and words[at] != names[at]:
                return (row, at)
            if names[at] is None and words[at] not in {str(number) for number in range(10 ** 4)}:
                return (row, at)
    return None


class ChangedTexts(unittest.TestCase):
    def check(self, text):
        fault = first_fault(text)
        if fault is not None:
            self.assertEqual(wrong_at(text), fault)
            return
        try:
            way = parse_way(text)
        except InvalidWay:
            return
        self.assertEqual(format_way(way), text)

    def test_a_character_less_or_more_or_another_one(self):
        text = "lantern 10\npost 4 3\npost 0 12"
        for at in range(len(text) + 1):
            self.check(text[:at] + text[at + 1:])
            for character in " \n09p-\u0664":
                self.check(text[:at] + character + text[at:])
                self.check(text[:at] + character + text[at + 1:])

    def test_texts_that_are_cut_off(self):
        for at in range(len(TEXT)):
            self.check(TEXT[:at])
            self.check(TEXT[at:])

    def test_some_texts(self):
        told = random.Random(63)
        pieces = ("lantern", "post", " ", " ", " ", "\n", "\n", "0", "1", "2", "12", "00", "x", "-")
        for _ in range(300):
            self.check("lantern 7\npost 1 2\n" + "".join(told.choice(pieces) for _ in range(told.randrange(8))))
            self.check("".join(told.choice(pieces) for _ in range(told.randrange(8))))


class Logs(unittest.TestCase):
    def test_lines(self):
        self.assertEqual(log_text(example(), 0, 5, 1), "  0  0 ____________5\n  1  1 ____________6")
        self.assertEqual(log_text(example(), 2, 4, 2).split("\n"), [
            "  0  2 ____________4", "  1  0 ____________8", "  2  1 ____________7",
        ])

    def test_one_leg(self):
        self.assertEqual(log_text(Way(9, (0, 4)), 0, 4, 1), "  0  0 ____________4\n  1  0 ____________0")
        self.assertEqual(log_text(Way(9, (0, 4)), 0, 3, 1), "  0  0 ____________3\n  1 -- ____________3")
        self.assertEqual(log_text(Way(9, (0, 4)), 0, 0, 1), "  0  0 ____________0\n  1 -- ____________0")

    def test_the_first_leg_goes_out(self):
        for legs in (1, 2, 100):
            self.assertEqual(log_text(Way(3, (9, 4), (9, 1)), 0, 2, legs), "  0  0 ____________2\n  1 -- ____________3")

    def test_the_last_leg_goes_out(self):
        self.assertEqual(log_text(example(), 0, 0, 2).split("\n")[2], "  2 -- ____________1")
        self.assertEqual(len(log_text(example(), 0, 0, 1).split("\n")), 2)
        lines = log_text(Way(99, (0, 1)), 0, 99, 100).split("\n")
        self.assertEqual(lines[99:], [" 99  0 ____________0", "100 -- ____________0"])

    def test_a_hundred_legs(self):
        lines = log_text(Way.even(9, 12, 3, 3), 11, 2, 100).split("\n")
        self.assertEqual(len(lines), 101)
        self.assertEqual(lines[:3], ["  0 11 ____________2", "  1  0 ____________2", "  2  1 ____________2"])
        self.assertEqual(lines[9:13], [
            "  9  8 ____________2", " 10  9 ____________2", " 11 10 ____________2", " 12 11 ____________2",
        ])
        self.assertEqual(lines[99:], [" 99  2 ____________2", "100  3 ____________2"])

    def test_commas_between_groups_of_three_digits(self):
        told = {
            0: "____________0", 7: "____________7", 12: "___________12", 999: "__________999", 1000: "________1,000",
            12345: "_______12,345", 123456: "______123,456", 1234567: "____1,234,567", 12345678: "___12,345,678",
            123456789: "__123,456,789", BILLION: "1,000,000,000",
        }
        for oil, text in told.items():
            with self.subTest(oil):
                way = Way(BILLION, (1, 1))
                left = told[oil] if oil < BILLION else "__999,999,999"
                self.assertEqual(log_text(way, 0, oil, 1), f"  0  0 {text}\n  1  0 {left}")
                if 0 < oil < BILLION:
                    out = Way(oil, (0, BILLION), (BILLION, 1))
                    self.assertEqual(log_text(out, 0, oil, 100), f"  0  0 {text}\n  1 -- {text}")

    def test_steps_of_ten_digits_less_one(self):
        way = Way(BILLION, (BILLION - 1, BILLION))
        self.assertEqual(log_text(way, 0, BILLION, 9).split("\n"), [
            "  0  0 1,000,000,000", "  1  0 ____________0", "  2 -- __999,999,999",
        ])

    def test_against_plain_walking(self):
        told = random.Random(64)
        for capacity, rows in some_rows(65, 300, 12, 5, 4, 30):
            post = told.randrange(len(rows))
            oil = told.randint(0, capacity)
            legs = told.choice((1, 2, 7, 30, 99, 100))
            found, steps = arrivals(capacity, rows, post, oil, legs)
            expected = [(0, str(post), oil)]
            for at, left in enumerate(found, start=1):
                expected.append((at, str((post + at) % len(rows)), left))
            if steps is not None:
                expected.append((len(found) + 1, "--", steps))
            text = "\n".join([self.line(*each) for each in expected])
            self.assertEqual(log_text(Way(capacity, *rows), post, oil, legs), text)

    def line(self, walked, place, oil):
        return str(walked).rjust(3) + " " + place.rjust(2) + " " + str(oil).rjust(13, "_")

    def test_unknown_posts(self):
        for post in (*NO_NUMBERS, -1, 3, 10 ** 20):
            with self.subTest(repr(post)):
                raised(UnknownPost, log_text, example(), post, 5, 5)
                raised(UnknownPost, log_text, example(), post, 11, 101)

    def test_wrong_oil(self):
        for oil in (*NO_NUMBERS, -1, 11, 10 ** 20):
            with self.subTest(repr(oil)):
                raised(InvalidNumber, log_text, example(), 2, oil, 5)

    def test_wrong_legs(self):
        for legs in (*NO_NUMBERS, 0, -1, 101, 10 ** 20):
            with self.subTest(repr(legs)):
                raised(InvalidNumber, log_text, example(), 2, 5, legs)
                raised(InvalidNumber, log_text, Way(3, (0, 9)), 0, 0, legs)

    def test_repeated(self):
        way = example()
        self.assertEqual(log_text(way, 0, 5, 100), log_text(way, 0, 5, 100))
        self.assertEqual(way, example())


if __name__ == "__main__":
    unittest.main()
