"""A guide that plays a duel for one side."""

from climbrow.checks import check_hands
from climbrow.errors import OutOfTurn
from climbrow.plans import answer_of_rest, lay_of_rest
from climbrow.remains import Remains
from climbrow.words import other_side


class Guide:
    """Plays for one side by the plan that holds the promise against every play."""

    def __init__(self, mine, theirs, side, *, many="mine"):
        check_hands(mine, theirs)
        self.side = side
        self.many = many
        self.won = 0
        self._cards = Remains(mine, theirs)

    def lay(self):
        """Return the card that the plan lays."""
        if not self._cards.left[self.side]:
            raise OutOfTurn()
        return lay_of_rest(self._cards, self.side, self.many)

    def answer(self, index):
        """Return the card with which the plan answers the other side's card."""
        laying = other_side(self.side)
        self._cards.check(laying, index)
        return answer_of_rest(self._cards, laying, index, self.many)

    def saw(self, m, t):
        """Take note of a pair that was made."""
        self._cards.check_pair(m, t)
        self._cards.drop_pair(m, t)
        self.won = self.won + self._cards.gain(m, t)

    def row(self):
        """Return the row of the cards that are left, with the number of won pairs added to each entry."""
        return self._cards.row(self.won)

    def promise(self, word):
        """Return the result to which the guide's side can hold under the word of the rounds that are left."""
        return self.won + self._cards.value(word, self.many)
