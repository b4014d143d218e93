"""Changing cards: another number, lifted cards, and a late pair. Mine wishes for many won pairs."""

from climbrow.cards import side_order
from climbrow.checks import check_card, check_hands, check_place
from climbrow.errors import Unreachable
from climbrow.rows import value_of
from climbrow.spans import least, most


def with_number(hand, index, number):
    """Return the hand in which the card at the index has another number."""
    check_card("mine", hand, index)
    return hand[:index] + [number] + hand[index + 1:]


def cheapest_raise(mine, theirs, word, index):
    """Return the smallest number above the card's own that adds 1 to the value under the word, or None."""
    before = value_of(mine, theirs, word)
    check_card("mine", mine, index)
    # Only a number of theirs makes a difference: from there on the card wins a pair more.
    for number in sorted(theirs):
        if number > mine[index] and value_of(with_number(mine, index, number), theirs, word) > before:
            return number
    return None


def lift_lowest(mine, theirs, count):
    """Return my hand after its lowest cards, as many as the count says, were given the top number."""
    check_hands(mine, theirs)
    check_place(count, 0, len(mine))
    lowest = side_order(mine, theirs, "mine")[:count]
    top = max(mine + theirs, default=0)
    return [top if index in lowest else number for index, number in enumerate(mine)]


def lifts_needed(mine, theirs, word, wanted):
    """Return the smallest number of lowest cards to lift for which the value is at least the wanted result."""
    count, n = 0, len(mine)
    value = value_of(mine, theirs, word)
    if wanted > n:
        raise Unreachable(wanted, 0, n)
    # With all cards lifted the value is n, so this ends.
    while value < wanted:
        count = count + 1
        value = value_of(lift_lowest(mine, theirs, count), theirs, word)
    return count


def late_pair(mine, theirs, my_number, their_number):
    """Return the hands with a new card for each side, and by how much the least and the most change."""
    check_hands(mine, theirs)
    new_mine, new_theirs = mine + [my_number], theirs + [their_number]
    least_change = least(new_mine, new_theirs) - least(mine, theirs)
    most_change = most(new_mine, new_theirs) - most(mine, theirs)
    return new_mine, new_theirs, least_change, most_change
