"""Numbers that go round."""

ROUND = 4294967296
GREATEST_NUMBER = 4294967295
HALF_ROUND = 2147483648


def plus(number, step):
    return (number + step) % ROUND


def offset(number, base):
    # Half a round is added ahead of the rest and taken away behind it, so that
    # what lies half a round off comes out below 0 and never above it.
    return (number - base + HALF_ROUND) % ROUND - HALF_ROUND


def past(number, base):
    return offset(number, base) > 0
