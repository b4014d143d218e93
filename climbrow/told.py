"""What a told part of a pairing still lets: possible winners, results and marks."""

from climbrow.cards import deck, wins
from climbrow.checks import check_hands
from climbrow.tellings import Telling, check_wanted


def winners_telling(mine, theirs, cards):
    """Return the telling that exactly these cards of mine have won."""
    others = [m for m in range(len(mine)) if m not in cards]
    return Telling(mine, theirs, (), cards, others)


def breaking_place(mine, theirs, cards):
    """Return the lowest place that forbids the cards as set of winners, or None."""
    return winners_telling(mine, theirs, cards).breaking_place()


def allowed_ways(ways, k, height, their_count):
    """Return the ways without those that the place forbids."""
    return [count if below <= their_count and k - below >= height else 0 for below, count in enumerate(ways)]


def count_winner_sets(mine, theirs, k):
    """Return the number of possible sets of k winners."""
    check_hands(mine, theirs)
    # Entry j is the number of ways to have j winners below the place that no place so far forbids.
    ways = allowed_ways([1], k, 0, 0)
    height, their_count = 0, 0
    for side, _ in deck(mine, theirs):
        if side == "theirs":
            height, their_count = height + 1, their_count + 1
        else:
            height = height - 1
            ways = [loses + wins_too for loses, wins_too in zip(ways + [0], [0] + ways)]
        ways = allowed_ways(ways, k, height, their_count)
    return sum([count for winning, count in enumerate(ways) if winning == k])


def results_told(mine, theirs, *, pairs=(), won=(), lost=()):
    """Return the smallest and the greatest result of all pairings that agree with the telling."""
    return Telling(mine, theirs, pairs, won, lost).results()


def pairing_told(mine, theirs, wanted, *, pairs=(), won=(), lost=()):
    """Return a pairing that agrees with the telling and has the wanted result."""
    return Telling(mine, theirs, pairs, won, lost).pairing(wanted)


def can_have(mine, theirs, wanted, pairs, won, lost):
    """Return True if some pairing agrees with the telling, and has the wanted result if one is wanted."""
    telling = Telling(mine, theirs, pairs, won, lost)
    if not telling.agrees():
        return False
    lowest, highest = telling.results()
    return wanted is None or lowest <= wanted <= highest


def forced_mark(mine, theirs, m, wanted, pairs, won, lost):
    """Return the mark of an open card on which all pairings agree, or None."""
    can_win = can_have(mine, theirs, wanted, pairs, [*won, m], lost)
    can_lose = can_have(mine, theirs, wanted, pairs, won, [*lost, m])
    # As some pairing is possible, the card can win if it cannot lose.
    return None if can_win and can_lose else can_win


def forced_marks(mine, theirs, *, wanted=None, pairs=(), won=(), lost=()):
    """Return for each card of mine whether it wins (True) or loses (False) in all pairings, or None."""
    telling = Telling(mine, theirs, pairs, won, lost)
    lowest, highest = telling.results()
    if wanted is not None:
        check_wanted(wanted, lowest, highest)
    found = [m in won for m in range(len(mine))]
    for m, t in pairs:
        found[m] = wins(mine[m], theirs[t])
    for m in telling.open_cards:
        found[m] = forced_mark(mine, theirs, m, wanted, pairs, won, lost)
    return found
