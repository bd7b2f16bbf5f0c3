import random
import unittest

from helpers import BILLION, NO_NUMBERS, raised, ways_of_all_sizes
from oilwalk.codec import decode_way, encode_way, pack_bytes, unpack_bytes
from oilwalk.errors import DecodeError, InvalidCount
from oilwalk.ways import Way


def example():
    return Way(10, (4, 3), (0, 5), (6, 2))


def checksum(values):
    found = 9
    for value in values:
        found = (4 * found + value) % 251
    return found


def four(number):
    return [number // 256 ** 3, number // 256 ** 2 % 256, number // 256 % 256, number % 256]


def told_bytes(many, capacity, *numbers):
    """Bytes with a right checksum, of whatever numbers."""
    values = [79, many] + [value for number in (capacity, *numbers) for value in four(number)]
    return bytes(values + [checksum(values)])


def wrong_at(data):
    return raised(DecodeError, decode_way, data).offset


def first_fault(data):
    """Tell the offset as the document says it, or None if the bytes tell a way."""
    if data[:1] != b"O":
        return 0
    if len(data) < 2 or not 1 <= data[1] <= 12:
        return 1
    for number in range(2 * data[1] + 1):
        at = 2 + 4 * number
        if len(data) < at + 4:
            return len(data)
        value = sum(byte * 256 ** (3 - place) for place, byte in enumerate(data[at:at + 4]))
        # All numbers but the oil, which are those with an odd place, are at least 1.
        if value > BILLION or (value == 0 and number % 2 == 0):
            return at
    end = 6 + 8 * data[1]
    if len(data) <= end or data[end] != checksum(data[:end]):
        return end
    return None if len(data) == end + 1 else end + 1


class InterfaceExamples(unittest.TestCase):
    def test_packing(self):
        self.assertEqual(unpack_bytes(pack_bytes([79, 0, 255])), [79, 0, 255])

    def test_ways(self):
        way = Way(10, (4, 3), (0, 5), (6, 2))
        self.assertEqual([decode_way(encode_way(way)) == way, len(encode_way(way))], [True, 31])

    def test_a_capacity_of_0(self):
        self.assertEqual(wrong_at(pack_bytes([79, 1, 0, 0, 0, 0])), 2)


class Packing(unittest.TestCase):
    def test_there_and_back_again(self):
        for values in ([], [0], [255], [79, 0, 255], list(range(256)), [7] * 1000):
            found = pack_bytes(values)
            self.assertIsInstance(found, bytes)
            self.assertEqual(found, bytes(values))
            again = unpack_bytes(found)
            self.assertIsInstance(again, list)
            self.assertEqual(again, values)
            self.assertEqual(pack_bytes(again), found)

    def test_wrong_values(self):
        wrong = (*NO_NUMBERS, -1, 256, 10 ** 20, -(10 ** 20), b"a", [0])
        for value in wrong:
            with self.subTest(repr(value)):
                for values in ([value], [value, 1], [1, value], [0, 1, value, 255]):
                    raised(InvalidCount, pack_bytes, values)

    def test_what_is_no_list(self):
        wrong = (None, True, False, 0, 3, -1, "", "abc", (), (1, 2), b"", b"ab", 1.0, {}, {1: 2}, range(3), {1, 2})
        for value in wrong:
            with self.subTest(repr(value)):
                raised(InvalidCount, pack_bytes, value)

    def test_the_list_is_neither_modified_nor_kept(self):
        values = [1, 2, 3]
        found = pack_bytes(values)
        self.assertEqual(values, [1, 2, 3])
        values[0] = 9
        self.assertEqual(found, b"\x01\x02\x03")
        wrong = [1, 256]
        raised(InvalidCount, pack_bytes, wrong)
        self.assertEqual(wrong, [1, 256])

    def test_the_list_may_be_modified(self):
        data = b"\x01\x02"
        unpack_bytes(data).append(7)
        self.assertEqual(unpack_bytes(data), [1, 2])
        self.assertEqual(data, b"\x01\x02")


class Encoding(unittest.TestCase):
    def test_each_byte(self):
        found = encode_way(Way(10, (4, 3)))
        values = [79, 1, 0, 0, 0, 10, 0, 0, 0, 4, 0, 0, 0, 3]
        self.assertIsInstance(found, bytes)
        self.assertEqual(list(found), values + [checksum(values)])

    def test_the_byte_that_counts_most_comes_first(self):
        found = encode_way(Way(0x01020304, (0x05060708, 0x090A0B0C), (0x0D0E0F10, 0x11121314)))
        self.assertEqual(list(found[:22]), [79, 2] + list(range(1, 21)))
        self.assertEqual(list(encode_way(Way(BILLION, (BILLION, BILLION)))[2:14]), [59, 154, 202, 0] * 3)

    def test_a_checksum_by_hand(self):
        # 9, 4 * 9 + 79 = 115, 4 * 115 + 1 = 461 - 251 = 210, and so on.
        told = 210
        for value in [0, 0, 0, 10, 0, 0, 0, 4, 0, 0, 0, 3]:
            told = 4 * told + value
            while told >= 251:
                told -= 251
        self.assertEqual(encode_way(Way(10, (4, 3)))[-1], told)

    def test_checksums_are_below_251(self):
        found = {encode_way(Way(capacity, (4, 3)))[-1] for capacity in range(1, 400)}
        self.assertEqual(found, set(range(251)))

    def test_lengths(self):
        for many in range(1, 13):
            found = encode_way(Way.even(5, many, 1, 2))
            self.assertEqual((len(found), found[0], found[1]), (7 + 8 * many, 79, many))

    def test_against_told_bytes(self):
        for way in ways_of_all_sizes(71):
            numbers = [number for post in way.posts for number in post]
            self.assertEqual(encode_way(way), told_bytes(len(way), way.capacity, *numbers))

    def test_the_way_stays(self):
        way = example()
        self.assertEqual(encode_way(way), encode_way(way))
        self.assertEqual(way, example())


class Decoding(unittest.TestCase):
    def test_there_and_back_again(self):
        for way in ways_of_all_sizes(71):
            data = encode_way(way)
            again = decode_way(data)
            self.assertIsInstance(again, Way)
            self.assertEqual(again, way)
            self.assertEqual(encode_way(again), data)
            self.assertEqual(decode_way(pack_bytes(unpack_bytes(data))), way)
            self.assertIsNone(first_fault(data))

    def test_the_first_byte(self):
        data = encode_way(example())
        for value in range(256):
            if value != 79:
                self.assertEqual(wrong_at(bytes([value]) + data[1:]), 0)
                self.assertEqual(wrong_at(bytes([value])), 0)

    def test_the_number_of_posts(self):
        for many in range(256):
            data = bytes([79, many])
            self.assertEqual(wrong_at(data), 2 if 1 <= many <= 12 else 1)
        self.assertEqual(wrong_at(told_bytes(0, 5)), 1)
        self.assertEqual(wrong_at(told_bytes(13, 5, *[1, 1] * 13)), 1)
        self.assertEqual(decode_way(told_bytes(12, 5, *[1, 1] * 12)), Way.even(5, 12, 1, 1))
        self.assertEqual(decode_way(told_bytes(1, 5, 1, 1)), Way(5, (1, 1)))

    def test_limits_of_numbers(self):
        for number in (BILLION + 1, 2 ** 31, 2 ** 32 - 1):
            self.assertEqual(wrong_at(told_bytes(2, number, 1, 2, 3, 4)), 2)
            self.assertEqual(wrong_at(told_bytes(2, 5, number, 2, 3, 4)), 6)
            self.assertEqual(wrong_at(told_bytes(2, 5, 1, number, 3, 4)), 10)
            self.assertEqual(wrong_at(told_bytes(2, 5, 1, 2, number, 4)), 14)
            self.assertEqual(wrong_at(told_bytes(2, 5, 1, 2, 3, number)), 18)
        self.assertEqual(decode_way(told_bytes(1, BILLION, BILLION, BILLION)), Way(BILLION, (BILLION, BILLION)))

    def test_zeros(self):
        self.assertEqual(wrong_at(told_bytes(2, 0, 1, 2, 3, 4)), 2)
        self.assertEqual(wrong_at(told_bytes(2, 5, 1, 0, 3, 4)), 10)
        self.assertEqual(wrong_at(told_bytes(2, 5, 1, 2, 3, 0)), 18)
        self.assertEqual(decode_way(told_bytes(2, 1, 0, 1, 0, 1)), Way(1, (0, 1), (0, 1)))

    def test_the_first_fault_is_told(self):
        self.assertEqual(wrong_at(told_bytes(2, 0, BILLION + 1, 0, 3, 0)), 2)
        self.assertEqual(wrong_at(told_bytes(2, 5, BILLION + 1, 0, 3, 0)), 6)
        self.assertEqual(wrong_at(told_bytes(2, 5, 1, 0, BILLION + 1, 0)), 10)
        self.assertEqual(wrong_at(told_bytes(2, 5, 1, 2, 3, 0)[:-1] + b"\xff\xff"), 18)

    def test_numbers_are_read_before_they_are_judged(self):
        data = told_bytes(1, BILLION + 1, 2 ** 32 - 1, 0)
        self.assertEqual([wrong_at(data[:size]) for size in range(16)], [0, 1, 2, 3, 4, 5] + [2] * 10)
        data = told_bytes(1, 5, 2 ** 32 - 1, 0)
        self.assertEqual([wrong_at(data[:size]) for size in range(6, 16)], [6, 7, 8, 9] + [6] * 6)
        data = told_bytes(1, 5, 7, 0)
        self.assertEqual([wrong_at(data[:size]) for size in range(10, 16)], [10, 11, 12, 13, 10, 10])

    def test_bytes_that_are_cut_off(self):
        for many in (1, 2, 12):
            data = encode_way(Way.even(BILLION, many, 0, BILLION))
            for size in range(len(data)):
                self.assertEqual(wrong_at(data[:size]), size)

    def test_bytes_that_follow(self):
        data = encode_way(example())
        for more in (b"\x00", b"O", b"\xff", b"\x00\x00", data):
            self.assertEqual(wrong_at(data + more), len(data))

    def test_wrong_checksums(self):
        data = encode_way(example())
        for value in range(256):
            if value != data[-1]:
                changed = data[:-1] + bytes([value])
                self.assertEqual(wrong_at(changed), len(data) - 1)
                self.assertEqual(wrong_at(changed + b"\x00"), len(data) - 1)

    def test_each_byte_is_changed(self):
        data = encode_way(Way(3, (5, 6), (0, 300)))
        for at in range(len(data)):
            for value in (0, 1, 2, 3, 12, 13, 59, 60, 79, 255):
                changed = data[:at] + bytes([value]) + data[at + 1:]
                self.check(changed)
                if changed != data:
                    self.assertIsNotNone(first_fault(changed))
                corrected = changed[:-1] + bytes([checksum(changed[:-1])])
                self.check(corrected)
                self.check(changed[:at])
                self.check(data[:at] + data[at + 1:])
                self.check(data[:at] + bytes([value]) + data[at:])

    def check(self, data):
        fault = first_fault(data)
        if fault is None:
            self.assertEqual(encode_way(decode_way(data)), data)
        else:
            self.assertEqual(wrong_at(data), fault)

    def test_some_bytes(self):
        told = random.Random(73)
        for _ in range(600):
            values = [told.choice((0, 0, 0, 1, 2, 59, 255)) for _ in range(told.randrange(30))]
            self.check(bytes(values))
            self.check(bytes([79, told.randint(0, 3)] + values))
            self.check(bytes([79, 1] + values + [checksum([79, 1] + values)]))

    def test_the_data_stays(self):
        data = encode_way(example())
        again = bytes(data)
        self.assertEqual(decode_way(data), decode_way(data))
        self.assertEqual(data, again)

    def test_no_bytes(self):
        for value in (*NO_NUMBERS, 79, -1, "O", [79, 1], (79, 1), list(encode_way(example()))):
            with self.subTest(repr(value)):
                self.assertEqual(wrong_at(value), 0)
        self.assertEqual(wrong_at(b""), 0)


if __name__ == "__main__":
    unittest.main()
