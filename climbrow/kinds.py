"""The kinds of hands, their rows in order, and the orders of cards that have a row."""

from math import comb

from climbrow.cards import deck
from climbrow.checks import check_hands, check_place
from climbrow.errors import BadHands, BadPlace
from climbrow.levels import row_of
from climbrow.rows import is_row
from climbrow.words import check_letters


def alike(mine, theirs, other_mine, other_theirs):
    """Return True if the values of the two pairs of hands agree under every word."""
    return row_of(mine, theirs) == row_of(other_mine, other_theirs)


def count_kinds(n):
    """Return the number of rows of n entries."""
    if n <= 0:
        return 1 if n == 0 else 0
    return (n + 3) * (1 << n) // 4


def kinds(n):
    """Return all rows of n entries in ascending order."""
    if n == 0:
        return [[]]
    found = [[first] for first in range(-n, 1)]
    for _ in range(n - 1):
        found = [row + [row[-1] + step] for row in found for step in (0, 1)]
    return [row for row in found if row[-1] >= -1]


def count_endings(entry, more):
    """Return in how many ways a row can go on after the entry, with so many more entries."""
    # Each further entry goes up by 0 or 1, and the last one must be at least -1.
    return sum([comb(more, ups) for ups in range(max(0, -1 - entry), more + 1)])


def kind_at(n, index):
    """Return the row at the index of the list of all rows of n entries."""
    check_place(index, 0, count_kinds(n) - 1)
    row = []
    before = index
    for more in reversed(range(n)):
        entry = row[-1] if row else -n
        while before >= count_endings(entry, more):
            before = before - count_endings(entry, more)
            entry = entry + 1
        row.append(entry)
    return row


def kind_index(row):
    """Return the index of the row in the list of all rows with as many entries."""
    if not is_row(row):
        raise BadPlace(len(row))
    n = len(row)
    index = 0
    lowest = -n
    for at, entry in enumerate(row):
        index = index + sum([count_endings(smaller, n - at - 1) for smaller in range(lowest, entry)])
        lowest = entry
    return index


def order_of(mine, theirs):
    """Return the sides of the cards in deck order, as letters."""
    check_hands(mine, theirs)
    return "".join(["M" if side == "mine" else "T" for side, _ in deck(mine, theirs)])


def plain_hands(order):
    """Return ascending hands with the numbers 1 to 2n, each once, whose deck has the order."""
    check_letters(order)
    if order.count("M") != order.count("T"):
        raise BadHands(order.count("M"), order.count("T"))
    mine = [number for number, letter in enumerate(order, start=1) if letter == "M"]
    theirs = [number for number, letter in enumerate(order, start=1) if letter == "T"]
    return mine, theirs


def count_orders(row):
    """Return how many orders have the row."""
    if not is_row(row):
        return 0
    found = comb(row.count(0) + row.count(-1), row.count(0))
    for height in sorted(set(row)):
        further = row.count(height + 1) if height >= 0 else row.count(height - 1)
        found = found * comb(row.count(height) + further - 1, further)
    return found


def plainest_order(row):
    """Return an order that has the row."""
    # A row tells how often the heights go up from each height, and they come down as often.
    order = ""
    for height in range(max(row, default=-1) + 1):
        order = order + "TM" * (row.count(height) - 1) + "T"
    order = order + "M" * (max(row, default=-1) + 1)
    for height in reversed(range(min(row, default=0), 0)):
        order = order + "MT" * (row.count(height) - 1) + "M"
    return order + "T" * -min(row, default=0)


def plainest(row):
    """Return hands of the row, with the numbers 1 to 2n, each once, both ascending."""
    if not is_row(row):
        raise BadPlace(len(row))
    return plain_hands(plainest_order(row))
