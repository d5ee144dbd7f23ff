"""Segments as lines that can be read."""

from wirestream.errors import NoSegment
from wirestream.rounds import GREATEST_NUMBER
from wirestream.segments import (
    ANSWER,
    DATA,
    FLAGS,
    GOAL,
    GREATEST_DATA,
    GREATEST_FLAGS,
    GREATEST_MOST,
    GREATEST_PORT,
    GREATEST_WINDOW,
    LEAST_MOST,
    MOST,
    NUMBER,
    SOURCE,
    SYN,
    WINDOW,
    has,
)

FLAG_NAMES = {"fin": 1, "syn": 2, "rst": 4, "psh": 8, "ack": 16}
NO_FLAGS = "none"
FIGURES = "0123456789"
BYTE_FIGURES = "0123456789abcdef"
WORDS_WITHOUT_DATA = 7


def shown(segment):
    ahead = [str(segment[place]) for place in (SOURCE, GOAL, NUMBER, ANSWER)]
    behind = [str(segment[place]) for place in (WINDOW, MOST)]
    # An empty word would leave a blank behind the last one.
    data = [shown_data(segment[DATA])] if len(segment[DATA]) > 0 else []
    return " ".join(ahead + [shown_flags(segment[FLAGS])] + behind + data)


def shown_flags(flags):
    names = [name for name, flag in FLAG_NAMES.items() if has(flags, flag) == 1]
    return "+".join(names) if len(names) > 0 else NO_FLAGS


def shown_data(data):
    return "".join([BYTE_FIGURES[byte // 16 % 16] + BYTE_FIGURES[byte % 16] for byte in data])


def read(line):
    words = line.split(" ")
    if len(words) not in (WORDS_WITHOUT_DATA, WORDS_WITHOUT_DATA + 1):
        raise NoSegment("a line has seven words, and one more for data")
    ports = (read_number(words[SOURCE], GREATEST_PORT), read_number(words[GOAL], GREATEST_PORT))
    numbers = (read_number(words[NUMBER], GREATEST_NUMBER), read_number(words[ANSWER], GREATEST_NUMBER))
    flags = read_flags(words[FLAGS])
    window = read_number(words[WINDOW], GREATEST_WINDOW)
    most = read_most(words[MOST], flags)
    data = read_data(words[DATA]) if len(words) > WORDS_WITHOUT_DATA else ()
    return ports + numbers + (flags, window, most, data)


def read_number(word, greatest):
    # The length is asked ahead of the value: Python itself refuses to read very many figures.
    if not is_of(word, FIGURES) or len(word) > len(str(greatest)):
        raise NoSegment("this is no number of a segment")
    number = int(word)
    if number > greatest or str(number) != word:
        raise NoSegment("this number is too great or has noughts ahead")
    return number


def is_of(word, figures):
    return word != "" and all([sign in figures for sign in word])


def read_flags(word):
    # There are so few flags that going through their texts is the surest way to take no other one.
    for flags in range(GREATEST_FLAGS + 1):
        if shown_flags(flags) == word:
            return flags
    raise NoSegment("these are no flags of a segment")


def read_most(word, flags):
    most = read_number(word, GREATEST_MOST)
    if most != 0 and (most < LEAST_MOST or has(flags, SYN) == 0):
        raise NoSegment("a greatest length is 4 at least and stands only beside syn")
    return most


def read_data(word):
    if not is_of(word, BYTE_FIGURES) or len(word) % 2 == 1 or len(word) > 2 * GREATEST_DATA:
        raise NoSegment("this is no data of a segment")
    return tuple([read_byte(word[place], word[place + 1]) for place in range(0, len(word), 2)])


def read_byte(high, low):
    return 16 * BYTE_FIGURES.index(high) + BYTE_FIGURES.index(low)
