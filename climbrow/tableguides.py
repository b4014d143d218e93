"""A guide that plays at several tables for one side."""

from climbrow.checks import check_place
from climbrow.errors import OutOfTurn
from climbrow.guides import Guide
from climbrow.picks import best_picks, check_rounds, picked_value, picking_side
from climbrow.tables import check_tables, words_for


class TableGuide:
    """Plays for one side at several tables, by a guide at each table."""

    def __init__(self, tables, side, *, picker="layer", many="mine"):
        check_tables(tables)
        self.won = 0
        self._side = side
        self._picker = picker
        self._many = many
        self._guides = [Guide(mine, theirs, side, many=many) for mine, theirs in tables]

    def pick(self, word):
        """Return the table that the guide's side picks for the next round."""
        rows = self._rows()
        check_rounds(rows, word)
        if not word or picking_side(word[0], self._picker) != self._side:
            raise OutOfTurn()
        return best_picks(rows, word, picker=self._picker, many=self._many)[0]

    def lay(self, table):
        """Return the card that the plan lays at the table."""
        return self._guide_at(table).lay()

    def answer(self, table, index):
        """Return the card with which the plan answers the other side's card at the table."""
        return self._guide_at(table).answer(index)

    def saw(self, table, m, t):
        """Take note of a pair that was made at the table."""
        guide = self._guide_at(table)
        guide.saw(m, t)
        self.won = sum([each.won for each in self._guides])

    def promise(self, word):
        """Return what the guide's side can hold to in a play with picks under the word of all rounds that are left."""
        rows = self._rows()
        value = picked_value(rows, word, picker=self._picker, many=self._many)
        # The rows that have entries are counted in, so their value contains what was won at their tables.
        return value + sum([guide.won for guide, row in zip(self._guides, rows) if not row])

    def schedule_promise(self, schedule):
        """Return what the guide's side can hold to under a schedule of the rounds that are left."""
        words = words_for([len(row) for row in self._rows()], schedule)
        return sum([guide.promise(word) for guide, word in zip(self._guides, words)])

    def _rows(self):
        """Return the rows that are left, counted in at each table."""
        return [guide.row() for guide in self._guides]

    def _guide_at(self, table):
        """Return the guide of the table; raise BadPlace if there is no such table."""
        check_place(table, 0, len(self._guides) - 1)
        return self._guides[table]
