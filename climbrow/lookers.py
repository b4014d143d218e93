"""Lookers: each one checks a paper by one pass over the cards."""

from climbrow.checks import check_hands
from climbrow.levels import side_levels
from climbrow.pairings import marks, winners
from climbrow.reserves import reserved_pairs
from climbrow.rows import value
from climbrow.tellings import REASONS, Telling
from climbrow.told import winners_telling
from climbrow.walks import heights


def is_pairing(pairing, n):
    """Return True if the list is a pairing of n cards."""
    return sorted(pairing) == list(range(n))


def is_word(word, n):
    """Return True if the word has n letters, and no others than M and T."""
    return len(word) == n and all([letter in ("M", "T") for letter in word])


def are_cards(cards, n):
    """Return True if the list names cards of a hand of n cards, ascending and none twice."""
    rising = all([lower < upper for lower, upper in zip(cards, cards[1:])])
    return rising and all([0 <= index < n for index in cards])


def has_height(walk, place, height):
    """Return True if the place exists and has the height."""
    return 0 <= place < len(walk) and walk[place] == height


def has_result(mine, theirs, pairing, wanted):
    """Return True if the list is a pairing with the wanted result."""
    return is_pairing(pairing, len(mine)) and len(winners(mine, theirs, pairing)) == wanted


def look_span(mine, theirs, paper):
    """Return True if the span paper is right."""
    walk = heights(mine, theirs)
    _, lowest, low_place, low_pairing, highest, high_place, high_pairing = paper
    low_is_right = has_height(walk, low_place, lowest) and has_result(mine, theirs, low_pairing, lowest)
    high_height = highest - len(mine)
    high_is_right = has_height(walk, high_place, high_height) and has_result(mine, theirs, high_pairing, highest)
    return low_is_right and high_is_right


def shows_row(mine, theirs, row, partners):
    """Return True if the list is a pairing of cards of equal levels, and the row is that of the hands."""
    my_levels = side_levels(mine, theirs, "mine")
    their_levels = side_levels(mine, theirs, "theirs")
    if not is_pairing(partners, len(mine)) or row != sorted(my_levels):
        return False
    return all([my_levels[m] == their_levels[t] for m, t in enumerate(partners)])


def look_row(mine, theirs, paper):
    """Return True if the row paper is right."""
    _, row, partners = paper
    return shows_row(mine, theirs, row, partners)


def look_value(mine, theirs, paper):
    """Return True if the value paper is right."""
    _, word, many, shown, row, partners = paper
    if not shows_row(mine, theirs, row, partners):
        return False
    if not is_word(word, len(mine)) or many not in ("mine", "theirs"):
        return False
    return shown == value(row, word, many=many)


def look_winners(mine, theirs, paper):
    """Return True if the paper about a set of winners is right."""
    check_hands(mine, theirs)
    head, cards, shown = paper
    if head == "winners":
        return is_pairing(shown, len(mine)) and winners(mine, theirs, shown) == cards
    if not are_cards(cards, len(mine)):
        return False
    telling = winners_telling(mine, theirs, cards)
    return telling.has_place(shown) and any([telling.breaks(reason, shown) for reason in REASONS])


def look_reserve(mine, theirs, paper):
    """Return True if the reserve paper is right."""
    walk = heights(mine, theirs)
    _, pairs, place, pairing = paper
    if not is_pairing(pairing, len(mine)):
        return False
    won_count = len(winners(mine, theirs, pairing))
    if not has_height(walk, place, won_count - len(pairs)):
        return False
    return pairs == reserved_pairs(mine, theirs, pairing, place)


def agrees_with(mine, theirs, pairing, pairs, won, lost):
    """Return True if the pairing agrees with the telling."""
    won_marks = marks(mine, theirs, pairing)
    kept = all([pairing[m] == t for m, t in pairs])
    return kept and all([won_marks[m] for m in won]) and not any([won_marks[m] for m in lost])


def look_telling(mine, theirs, paper, *, pairs=(), won=(), lost=()):
    """Return True if the paper about the telling is right."""
    telling = Telling(mine, theirs, pairs, won, lost)
    if paper[0] == "contradiction":
        _, reason, place = paper
        return reason in REASONS and telling.has_place(place) and telling.breaks(reason, place)
    _, lowest, low_place, low_pairing, highest, high_place, high_pairing = paper
    if not telling.has_place(low_place) or not telling.has_place(high_place):
        return False
    if lowest != telling.sure + telling.demand(low_place) or highest != telling.sure + telling.room(high_place):
        return False
    if not has_result(mine, theirs, low_pairing, lowest) or not has_result(mine, theirs, high_pairing, highest):
        return False
    return all([agrees_with(mine, theirs, pairing, pairs, won, lost) for pairing in (low_pairing, high_pairing)])
