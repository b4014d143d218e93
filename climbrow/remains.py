"""The cards that are left of two hands."""

from climbrow.cards import wins
from climbrow.errors import BadCard
from climbrow.levels import row_of
from climbrow.rows import value_of


class Remains:
    """The cards that are left of two hands, named by their indexes in the whole hands."""

    def __init__(self, mine, theirs):
        self.numbers = {"mine": list(mine), "theirs": list(theirs)}
        self.left = {"mine": list(range(len(mine))), "theirs": list(range(len(theirs)))}

    def hand(self, side):
        """Return the numbers of the side's cards that are left."""
        return [self.numbers[side][index] for index in self.left[side]]

    def hands(self):
        """Return the numbers of the cards that are left, as two hands."""
        return self.hand("mine"), self.hand("theirs")

    def check(self, side, index):
        """Raise BadCard if the side's card is gone or never existed."""
        if index not in self.left[side]:
            raise BadCard(side, index)

    def check_pair(self, m, t):
        """Raise BadCard for the first card of the pair that is not left."""
        self.check("mine", m)
        self.check("theirs", t)

    def position(self, side, index):
        """Return the index that the card has in the hand of the cards that are left."""
        return self.left[side].index(index)

    def named(self, pairs):
        """Return the pairs of two positions in the hands that are left, named by indexes in the whole hands."""
        return [(self.left["mine"][m], self.left["theirs"][t]) for m, t in pairs]

    def row(self, won):
        """Return the row of the cards that are left, with the number of won pairs added to each entry."""
        left_mine, left_theirs = self.hands()
        return [entry + won for entry in row_of(left_mine, left_theirs)]

    def value(self, word, many):
        """Return the value of the cards that are left."""
        left_mine, left_theirs = self.hands()
        return value_of(left_mine, left_theirs, word, many=many)

    def gain(self, m, t):
        """Return 1 if the pair is won, and 0 otherwise."""
        return int(wins(self.numbers["mine"][m], self.numbers["theirs"][t]))

    def drop(self, side, index):
        """Take away a card of the side."""
        self.left[side].remove(index)

    def drop_pair(self, m, t):
        """Take away the two cards of a pair."""
        self.drop("mine", m)
        self.drop("theirs", t)

    def put_back(self, side, index):
        """Give the side a card of its own again that was taken away."""
        self.left[side] = sorted(self.left[side] + [index])

    def grow(self, side, number):
        """Put a new card at the end of the side's hand."""
        self.left[side].append(len(self.numbers[side]))
        self.numbers[side].append(number)
