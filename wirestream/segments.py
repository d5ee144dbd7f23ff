"""Segments, and the bytes that they are on the road."""

from wirestream.errors import NoSegment
from wirestream.sums import folded, sum_of

# A segment is a plain tuple, so its parts are known by their places alone.
SOURCE = 0
GOAL = 1
NUMBER = 2
ANSWER = 3
FLAGS = 4
WINDOW = 5
MOST = 6
DATA = 7

FIN = 1
SYN = 2
RST = 4
PSH = 8
ACK = 16
GREATEST_FLAGS = 31

SHORT_HEAD = 20
LONG_HEAD = 24
GREATEST_PORT = 65535
GREATEST_WINDOW = 65535
LEAST_MOST = 4
GREATEST_MOST = 65535
GREATEST_DATA = 16
RIGHT_SUM = 65535


def length(segment):
    flags = segment[FLAGS]
    return len(segment[DATA]) + has(flags, SYN) + has(flags, FIN)


def has(flags, flag):
    return 1 if flags & flag != 0 else 0


def bears(segment, flag):
    return has(segment[FLAGS], flag) == 1


def put(segment):
    ahead = bytes_ahead_of_sum(segment)
    behind = [0, 0] + bytes_of_most(segment[MOST]) + list(segment[DATA])
    return ahead + two_bytes(sum_of(ahead + [0, 0] + behind)) + behind


def bytes_ahead_of_sum(segment):
    ports = two_bytes(segment[SOURCE]) + two_bytes(segment[GOAL])
    numbers = four_bytes(segment[NUMBER]) + four_bytes(segment[ANSWER])
    head = SHORT_HEAD if segment[MOST] == 0 else LONG_HEAD
    return ports + numbers + [byte_of_head(head), segment[FLAGS]] + two_bytes(segment[WINDOW])


def byte_of_head(head):
    return 16 * (head // 4)


def bytes_of_most(most):
    return [] if most == 0 else [2, 4] + two_bytes(most)


def two_bytes(number):
    return [number // 256 % 256, number % 256]


def four_bytes(number):
    return two_bytes(number // 65536) + two_bytes(number)


def is_right(row):
    # The order counts: each condition reads bytes that those ahead of it have made sure of.
    return (
        len(row) >= SHORT_HEAD
        and row[12] in (byte_of_head(SHORT_HEAD), byte_of_head(LONG_HEAD))
        and row[13] <= GREATEST_FLAGS
        and 0 <= len(row) - head_of(row) <= GREATEST_DATA
        and two_at(row, 18) == 0
        and (head_of(row) == SHORT_HEAD or is_right_long_head(row))
        and folded(row) == RIGHT_SUM
    )


def head_of(row):
    return row[12] // 16 * 4


def is_right_long_head(row):
    return has(row[13], SYN) == 1 and row[20] == 2 and row[21] == 4 and two_at(row, 22) >= LEAST_MOST


def get(row):
    if not is_right(row):
        raise NoSegment("these bytes are no right segment")
    head = head_of(row)
    most = two_at(row, 22) if head == LONG_HEAD else 0
    ports = (two_at(row, 0), two_at(row, 2))
    numbers = (four_at(row, 4), four_at(row, 8))
    return ports + numbers + (row[13], two_at(row, 14), most, tuple(row[head:]))


def two_at(row, place):
    return 256 * row[place] + row[place + 1]


def four_at(row, place):
    return 65536 * two_at(row, place) + two_at(row, place + 2)
