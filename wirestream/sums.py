"""The sums by which a spoilt row is known."""

WORDS = 65536
GREATEST_WORD = 65535


def folded(row):
    # An odd last byte is among the first bytes of words, so it needs no care of its own.
    total = 256 * sum(row[::2]) + sum(row[1::2])
    while total > GREATEST_WORD:
        total = total % WORDS + total // WORDS
    return total


def sum_of(row):
    return GREATEST_WORD - folded(row)
