"""The referee of one duel."""

from climbrow.cards import as_pair
from climbrow.checks import acting_side, check_hands
from climbrow.errors import BadWord, OutOfTurn
from climbrow.remains import Remains
from climbrow.words import check_word_within, laying_side, other_side


class Duel:
    """One duel: its hands, the letters that are known, and the pairs that were made."""

    def __init__(self, mine, theirs, word=""):
        check_hands(mine, theirs)
        check_word_within(word, len(mine))
        self.mine = list(mine)
        self.theirs = list(theirs)
        self.word = word
        self.pairs = []
        self.won = 0
        self.open_card = None
        self._cards = Remains(mine, theirs)

    def __iter__(self):
        return iter(self.pairs)

    @property
    def due(self):
        """The side that must act and what it must do, or None if no deed is due."""
        if self.open_card is not None:
            return other_side(self.open_card[0]), "answer"
        played = len(self.pairs)
        # The word never has more letters than there are rounds, so this is also None after the last round.
        if played == len(self.word):
            return None
        return laying_side(self.word[played]), "lay"

    @property
    def rounds_left(self):
        """The number of cards that each side has, an open card included."""
        return len(self.mine) - len(self.pairs)

    def call(self, letter):
        """Name the side that lays in the first round that has no letter yet."""
        if letter not in ("M", "T") or len(self.word) == len(self.mine):
            raise BadWord(len(self.word))
        self.word = self.word + letter

    def lay(self, index):
        """Lay a card of the side that must act."""
        side = acting_side(self.due, "lay")
        self._cards.check(side, index)
        self._cards.drop(side, index)
        self.open_card = (side, index)

    def answer(self, index):
        """Answer the open card with a card of the side that must act."""
        side = acting_side(self.due, "answer")
        self._cards.check(side, index)
        self._cards.drop(side, index)
        m, t = as_pair(side, index, self.open_card[1])
        self.open_card = None
        self.pairs.append((m, t))
        self.won = self.won + self._cards.gain(m, t)

    def draw(self, my_number, their_number):
        """Add a late pair: a new card at the end of each hand."""
        self._check_no_open_card()
        self.mine.append(my_number)
        self.theirs.append(their_number)
        self._cards.grow("mine", my_number)
        self._cards.grow("theirs", their_number)

    def rest(self):
        """Return the indexes of the cards that each side still has, without an open card."""
        return list(self._cards.left["mine"]), list(self._cards.left["theirs"])

    def row(self):
        """Return the row of the cards that are left, with the number of won pairs added to each entry."""
        self._check_no_open_card()
        return self._cards.row(self.won)

    def value(self, letters, *, many="mine"):
        """Return the result to which both sides can hold under the letters of the rounds that are left."""
        self._check_no_open_card()
        return self.won + self._cards.value(letters, many)

    def _check_no_open_card(self):
        if self.open_card is not None:
            raise OutOfTurn()
