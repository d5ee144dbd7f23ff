"""Piles of bytes that wait in an end: those that were laid first are taken first."""

ROOM = 64


class Pile:
    def __init__(self):
        self.row = []


def room(pile):
    return ROOM - len(pile.row)


def lay(pile, row):
    laid = row[:room(pile)]
    pile.row = pile.row + laid
    return len(laid)


def take(pile, many):
    # A slice would count what is below 0 from the pile's other side.
    size = max(many, 0)
    taken = pile.row[:size]
    pile.row = pile.row[size:]
    return taken
