"""Several tables: schedules, their words and values, and the tables taken together."""

from climbrow.checks import check_hands
from climbrow.errors import BadSchedule
from climbrow.rows import value_of
from climbrow.spans import Span, span_of


def check_tables(tables):
    """Raise BadHands for the first table with hands of different lengths."""
    for mine, theirs in tables:
        check_hands(mine, theirs)


def words_for(counts, schedule):
    """Return the word of each table; the counts tell how many rounds each table has."""
    words = [""] * len(counts)
    for position, (table, letter) in enumerate(schedule):
        if not 0 <= table < len(counts) or letter not in ("M", "T") or len(words[table]) == counts[table]:
            raise BadSchedule(position)
        words[table] = words[table] + letter
    # No table can have had more rounds than it has cards, so only too few are left to be found.
    if len(schedule) < sum(counts):
        raise BadSchedule(len(schedule))
    return words


def schedule_words(tables, schedule):
    """Return the word of each table under the schedule."""
    check_tables(tables)
    return words_for([len(mine) for mine, _ in tables], schedule)


def schedule_value(tables, schedule, *, many="mine"):
    """Return the sum of the values of the tables under their words."""
    words = schedule_words(tables, schedule)
    return sum([value_of(mine, theirs, word, many=many) for (mine, theirs), word in zip(tables, words)])


def joint_span(tables):
    """Return the sum of the spans of all tables."""
    joint = Span(0, 0)
    for mine, theirs in tables:
        joint = joint + span_of(mine, theirs)
    return joint


def merged(tables):
    """Return two hands with the cards of all tables, table by table."""
    check_tables(tables)
    all_mine = [number for mine, _ in tables for number in mine]
    all_theirs = [number for _, theirs in tables for number in theirs]
    return all_mine, all_theirs
