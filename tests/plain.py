"""Slow and plain answers for the tests, written from the document and not from the program."""

import itertools
import random

LOW, HIGH = -(10 ** 15), 10 ** 15


class Case:
    """Mixed into a TestCase: checks of raised errors."""

    def raises(self, error, told, call, *args, **kwargs):
        """Check that the call raises exactly this error class, with these attributes."""
        try:
            found = call(*args, **kwargs)
        except Exception as raised:
            self.assertIs(type(raised), error, repr(raised))
            self.assertEqual({name: getattr(raised, name) for name in told}, told)
        else:
            self.fail(f"{call.__name__}{args} gave {found}, not {error.__name__}")


def won(mine, theirs, m, t):
    return mine[m] >= theirs[t]


def count_won(mine, theirs, pairing):
    return sum(1 for m, t in enumerate(pairing) if won(mine, theirs, m, t))


def all_pairings(n):
    return [list(pairing) for pairing in itertools.permutations(range(n))]


def all_results(mine, theirs):
    return [count_won(mine, theirs, pairing) for pairing in all_pairings(len(mine))]


def cards_of(mine, theirs):
    return [("mine", k) for k in range(len(mine))] + [("theirs", k) for k in range(len(theirs))]


def stands_before(mine, theirs, first, second):
    """Point 7, said for two cards."""
    numbers = [(mine if side == "mine" else theirs)[index] for side, index in (first, second)]
    if numbers[0] != numbers[1]:
        return numbers[0] < numbers[1]
    if first[0] != second[0]:
        return first[0] == "theirs"
    return first[1] < second[1]


def place(mine, theirs, card):
    return sum(1 for other in cards_of(mine, theirs) if stands_before(mine, theirs, other, card))


def plain_deck(mine, theirs):
    cards = cards_of(mine, theirs)
    found = [None] * len(cards)
    for card in cards:
        found[place(mine, theirs, card)] = card
    return found


def height(mine, theirs, at):
    below = plain_deck(mine, theirs)[:at]
    return sum(1 for side, _ in below if side == "theirs") - sum(1 for side, _ in below if side == "mine")


def plain_heights(mine, theirs):
    return [height(mine, theirs, at) for at in range(len(mine) + len(theirs) + 1)]


def met_going_up(mine, theirs, card):
    """All other cards in ring order, found by walking step by step."""
    cards = plain_deck(mine, theirs)
    found = []
    at = (cards.index(card) + 1) % len(cards)
    while cards[at] != card:
        found.append(cards[at])
        at = (at + 1) % len(cards)
    return found


def without(hand, index):
    return [number for k, number in enumerate(hand) if k != index]


def small_hands(n, numbers=3):
    """All pairs of hands of n cards with the numbers 0 to numbers - 1."""
    hands = [list(hand) for hand in itertools.product(range(numbers), repeat=n)]
    return [(list(mine), list(theirs)) for mine in hands for theirs in hands]


def all_orders(n):
    """Hands for every order of n cards of mine and n of theirs, with the numbers 1 to 2n."""
    found = []
    for chosen in itertools.combinations(range(1, 2 * n + 1), n):
        found.append((list(chosen), [number for number in range(1, 2 * n + 1) if number not in chosen]))
    return found


def some_hands(seed, count, longest, least=0, greatest=6):
    """Pairs of hands of one length, always the same ones for the same seed."""
    source = random.Random(seed)
    found = []
    for _ in range(count):
        n = source.randint(0, longest)
        found.append(([source.randint(least, greatest) for _ in range(n)],
                      [source.randint(least, greatest) for _ in range(n)]))
    return found


def uneven_hands(seed, count, longest):
    """Pairs of hands of different or equal lengths."""
    source = random.Random(seed)
    return [([source.randint(0, 5) for _ in range(source.randint(0, longest))],
             [source.randint(0, 5) for _ in range(source.randint(0, longest))]) for _ in range(count)]


def shuffled(seed, n):
    """A pairing of n cards, always the same one for the same seed."""
    pairing = list(range(n))
    random.Random(seed).shuffle(pairing)
    return pairing


def sample_hands():
    """Hands of every kind that the document names: empty, equal numbers, the limits, 40 cards."""
    return ([([], []), ([5], [5]), ([LOW], [HIGH]), ([HIGH], [LOW]), ([LOW, HIGH, LOW], [HIGH, LOW, LOW]),
             ([7] * 4, [7] * 4), ([1, 1, 2], [1, 1, 2]), ([7] * 40, [7] * 40),
             (list(range(40)), list(range(40))), (list(range(40, 0, -1)), list(range(0, 80, 2)))]
            + small_hands(1) + small_hands(2) + some_hands(1, 40, 9) + some_hands(2, 3, 40, -9, 9)
            + some_hands(3, 3, 40, LOW, HIGH))
