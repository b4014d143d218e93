"""A guide that plays a duel for one side."""

from climbrow.checks import check_hands
from climbrow.errors import OutOfTurn
from climbrow.plans import planned_answer, planned_lay
from climbrow.remains import Remains
from climbrow.rows import value_of
from climbrow.words import other_side


class Guide:
    """Plays for one side by the plan that holds the promise against every play."""

    def __init__(self, mine, theirs, side, *, many="mine"):
        check_hands(mine, theirs)
        self.side = side
        self.many = many
        self.won = 0
        self._cards = Remains(mine, theirs)

    def lay(self):
        """Return the card that the plan lays."""
        left_mine, left_theirs = self._cards.hands()
        if not left_mine:
            raise OutOfTurn()
        return self._cards.left[self.side][planned_lay(left_mine, left_theirs, self.side, self.many)]

    def answer(self, index):
        """Return the card with which the plan answers the other side's card."""
        laying = other_side(self.side)
        self._cards.check(laying, index)
        left_mine, left_theirs = self._cards.hands()
        position = self._cards.position(laying, index)
        return self._cards.left[self.side][planned_answer(left_mine, left_theirs, laying, position, self.many)]

    def saw(self, m, t):
        """Take note of a pair that was made."""
        self._cards.check_pair(m, t)
        self._cards.drop_pair(m, t)
        self.won = self.won + self._cards.gain(m, t)

    def promise(self, word):
        """Return the result to which the guide's side can hold under the word of the rounds that are left."""
        left_mine, left_theirs = self._cards.hands()
        return self.won + value_of(left_mine, left_theirs, word, many=self.many)
