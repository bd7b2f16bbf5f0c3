"""Bytes: lists of their values, and the bytes of a way."""

from oilwalk.checks import MOST_UNITS, is_number_within
from oilwalk.errors import DecodeError, InvalidCount
from oilwalk.ways import MOST_POSTS, Way

MARK = 79
FIRST_CHECKSUM = 9
# The mark and the number of posts stand ahead of the numbers.
HEAD_SIZE = 2
NUMBER_SIZE = 4


def pack_bytes(values):
    """Return the bytes with these values."""
    if not isinstance(values, list) or not all([is_number_within(value, 0, 255) for value in values]):
        raise InvalidCount("not a list of integers from 0 to 255")
    return bytes(values)


def unpack_bytes(data):
    """Return the list of the values of bytes."""
    return list(data)


def encode_way(way):
    """Return the bytes of a way."""
    data = bytes([MARK, len(way)]) + _number_bytes(way.capacity)
    for oil, steps in way.posts:
        data = data + _number_bytes(oil) + _number_bytes(steps)
    return data + bytes([_checksum(data)])


def decode_way(data):
    """Return the way of such bytes."""
    # What is no bytes does not even have a first one.
    if not isinstance(data, bytes):
        raise DecodeError(0)
    _check_byte(data, 0, MARK, MARK)
    _check_byte(data, 1, 1, MOST_POSTS)
    capacity = _number_at(data, HEAD_SIZE, 1)
    at = HEAD_SIZE + NUMBER_SIZE
    posts = []
    for _ in range(data[1]):
        oil = _number_at(data, at, 0)
        steps = _number_at(data, at + NUMBER_SIZE, 1)
        posts.append((oil, steps))
        at = at + 2 * NUMBER_SIZE
    checksum = _checksum(data[:at])
    _check_byte(data, at, checksum, checksum)
    if len(data) > at + 1:
        raise DecodeError(at + 1)
    return Way(capacity, *posts)


def _number_bytes(number):
    return number.to_bytes(4, "big")


def _checksum(data):
    checksum = FIRST_CHECKSUM
    for byte in data:
        checksum = int(4 * checksum + byte) % 251
    return checksum


def _check_byte(data, at, least, most):
    # Where bytes are missing, all before `at` are there, so `at` is the length.
    if len(data) <= at or not least <= data[at] <= most:
        raise DecodeError(at)


def _number_at(data, at, least):
    end = at + NUMBER_SIZE
    if len(data) < end:
        raise DecodeError(len(data))
    number = int.from_bytes(data[at:end], "big")
    if not least <= number <= MOST_UNITS:
        raise DecodeError(at)
    return number
