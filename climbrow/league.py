"""Leagues: several hands of one length, each of them played against each."""

from climbrow.checks import check_hands, check_pairing
from climbrow.spans import least, most


def check_league(hands):
    """Raise BadHands for the first hand that has another length than the first one."""
    for hand in hands:
        check_hands(hands[0], hand)


def least_table(hands):
    """Return for each two hands the least number of won pairs of the first one as mine."""
    check_league(hands)
    return [[least(mine, theirs) for theirs in hands] for mine in hands]


def loss_table(hands):
    """Return for each two hands the fewest lost pairs of the first one as mine."""
    check_league(hands)
    return [[len(mine) - most(mine, theirs) for theirs in hands] for mine in hands]


def beats_all(hands):
    """Return the indexes of the hands that need not lose a pair against any hand of the league."""
    return [index for index, losses in enumerate(loss_table(hands)) if max(losses) == 0]


def joined_pairing(first, second):
    """Return the pairing that leads through the first pairing and then through the second one."""
    check_pairing(first, len(first))
    check_pairing(second, len(first))
    return [second[middle] for middle in first]


def commonest(hand):
    """Return how often the commonest number occurs in the hand."""
    return max([hand.count(number) for number in hand], default=0)
