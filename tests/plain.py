"""Slow and plain answers for the tests, written from the document and not from the program."""

import itertools
import random

LOW, HIGH = -(10 ** 15), 10 ** 15


class Case:
    """Mixed into a TestCase: checks of raised errors."""

    def raises(self, error, told, call, *args, **kwargs):
        """Check that the call raises exactly this error class, with these attributes."""
        try:
            found = call(*args, **kwargs)
        except Exception as raised:
            self.assertIs(type(raised), error, repr(raised))
            self.assertEqual({name: getattr(raised, name) for name in told}, told)
        else:
            self.fail(f"{call.__name__}{args} gave {found}, not {error.__name__}")


def won(mine, theirs, m, t):
    return mine[m] >= theirs[t]


def count_won(mine, theirs, pairing):
    return sum(1 for m, t in enumerate(pairing) if won(mine, theirs, m, t))


def all_pairings(n):
    return [list(pairing) for pairing in itertools.permutations(range(n))]


def all_results(mine, theirs):
    return [count_won(mine, theirs, pairing) for pairing in all_pairings(len(mine))]


def cards_of(mine, theirs):
    return [("mine", k) for k in range(len(mine))] + [("theirs", k) for k in range(len(theirs))]


def stands_before(mine, theirs, first, second):
    """Point 7, said for two cards."""
    numbers = [(mine if side == "mine" else theirs)[index] for side, index in (first, second)]
    if numbers[0] != numbers[1]:
        return numbers[0] < numbers[1]
    if first[0] != second[0]:
        return first[0] == "theirs"
    return first[1] < second[1]


def place(mine, theirs, card):
    return sum(1 for other in cards_of(mine, theirs) if stands_before(mine, theirs, other, card))


def plain_deck(mine, theirs):
    cards = cards_of(mine, theirs)
    found = [None] * len(cards)
    for card in cards:
        found[place(mine, theirs, card)] = card
    return found


def plain_heights(mine, theirs):
    cards = plain_deck(mine, theirs)
    found = []
    for at in range(len(cards) + 1):
        sides = [side for side, _ in cards[:at]]
        found.append(sides.count("theirs") - sides.count("mine"))
    return found


def met_going_up(mine, theirs, card):
    """All other cards in ring order, found by walking step by step."""
    cards = plain_deck(mine, theirs)
    found = []
    at = (cards.index(card) + 1) % len(cards)
    while cards[at] != card:
        found.append(cards[at])
        at = (at + 1) % len(cards)
    return found


def without(hand, index):
    return [number for k, number in enumerate(hand) if k != index]


def small_hands(n, numbers=3):
    """All pairs of hands of n cards with the numbers 0 to numbers - 1."""
    hands = [list(hand) for hand in itertools.product(range(numbers), repeat=n)]
    return [(list(mine), list(theirs)) for mine in hands for theirs in hands]


def all_orders(n):
    """Hands for every order of n cards of mine and n of theirs, with the numbers 1 to 2n."""
    found = []
    for chosen in itertools.combinations(range(1, 2 * n + 1), n):
        found.append((list(chosen), [number for number in range(1, 2 * n + 1) if number not in chosen]))
    return found


def some_hands(seed, count, longest, least=0, greatest=6):
    """Pairs of hands of one length, always the same ones for the same seed."""
    source = random.Random(seed)
    found = []
    for _ in range(count):
        n = source.randint(0, longest)
        found.append(([source.randint(least, greatest) for _ in range(n)],
                      [source.randint(least, greatest) for _ in range(n)]))
    return found


def uneven_hands(seed, count, longest):
    """Pairs of hands of different or equal lengths."""
    source = random.Random(seed)
    return [([source.randint(0, 5) for _ in range(source.randint(0, longest))],
             [source.randint(0, 5) for _ in range(source.randint(0, longest))]) for _ in range(count)]


def shuffled(seed, n):
    """A pairing of n cards, always the same one for the same seed."""
    pairing = list(range(n))
    random.Random(seed).shuffle(pairing)
    return pairing


def plain_levels(mine, theirs, side):
    """Point 22: the height directly above my card, or directly below their card."""
    walk = plain_heights(mine, theirs)
    own = [card for card in cards_of(mine, theirs) if card[0] == side]
    return [walk[place(mine, theirs, card) + (1 if side == "mine" else 0)] for card in own]


def plain_row(mine, theirs):
    return sorted(plain_levels(mine, theirs, "theirs"))


def all_words(n):
    return ["".join(letters) for letters in itertools.product("MT", repeat=n)]


def all_rows(n):
    """Every ascending list with steps of 0 or 1 that point 24 calls a row."""
    found = [[first] for first in range(-n - 1, 1)] if n else [[]]
    for _ in range(n - 1):
        found = [row + [row[-1] + step] for row in found for step in (0, 1)]
    return [row for row in found if not row or row[-1] >= -1]


def sample_lists():
    """Rows, and lists that were counted in or struck, most of which are not rows of hands."""
    found = [row for n in range(6) for row in all_rows(n)]
    for mine, theirs in all_orders(4):
        for m, t in itertools.product(range(4), repeat=2):
            left = plain_row(without(mine, m), without(theirs, t))
            found.append([entry + won(mine, theirs, m, t) for entry in left])
        found.append([entry + 5 for entry in plain_row(mine, theirs)])
    for row in all_rows(4):
        found += [row[1:], [entry + 1 for entry in row[:-1]], [entry + 2 for entry in row[:-2]]]
    return [list(row) for row in sorted({tuple(row) for row in found})]


def played(mine, theirs, word, many):
    """The result of a duel in which both sides play best, by trying all plays of both sides."""
    def best(my_left, their_left):
        if not my_left:
            return 0
        if (my_left, their_left) not in known:
            letter = word[len(word) - len(my_left)]
            made = {(m, t): won(mine, theirs, m, t) + best(my_left - {m}, their_left - {t})
                    for m in my_left for t in their_left}
            choose_mine, choose_theirs = (max, min) if many == "mine" else (min, max)
            if letter == "M":
                found = choose_mine(choose_theirs(made[m, t] for t in their_left) for m in my_left)
            else:
                found = choose_theirs(choose_mine(made[m, t] for m in my_left) for t in their_left)
            known[my_left, their_left] = found
        return known[my_left, their_left]
    known = {}
    return best(frozenset(range(len(mine))), frozenset(range(len(theirs))))


def after_pair(mine, theirs, m, t):
    """The row that is left, counted in (point 23)."""
    return [entry + won(mine, theirs, m, t) for entry in plain_row(without(mine, m), without(theirs, t))]


def answers_in_order(mine, theirs, side, index):
    """The cards of the other side, going up the ring from the laid card."""
    return [k for whose, k in met_going_up(mine, theirs, (side, index)) if whose != side]


def pair_of(side, laid, answer):
    return (laid, answer) if side == "mine" else (answer, laid)


def worth(mine, theirs, m, t, letters, many):
    """The value of a pair that is made: what all later plays bring about, this pair included."""
    return won(mine, theirs, m, t) + played(without(mine, m), without(theirs, t), letters, many)


def forced(mine, theirs, word):
    """All results that mine can bring about exactly, by trying all plays of both sides."""
    def can(my_left, their_left, wanted):
        if not my_left:
            return wanted == 0
        key = (my_left, their_left, wanted)
        if key not in known:
            letter = word[len(word) - len(my_left)]
            made = {(m, t): can(my_left - {m}, their_left - {t}, wanted - won(mine, theirs, m, t))
                    for m in my_left for t in their_left}
            if letter == "M":
                known[key] = any(all(made[m, t] for t in their_left) for m in my_left)
            else:
                known[key] = all(any(made[m, t] for m in my_left) for t in their_left)
        return known[key]
    known = {}
    whole = (frozenset(range(len(mine))), frozenset(range(len(theirs))))
    return [wanted for wanted in range(-1, len(mine) + 2) if can(*whole, wanted)]


def sample_hands():
    """Hands of every kind that the document names: empty, equal numbers, the limits, 40 cards."""
    return ([([], []), ([5], [5]), ([LOW], [HIGH]), ([HIGH], [LOW]), ([LOW, HIGH, LOW], [HIGH, LOW, LOW]),
             ([7] * 4, [7] * 4), ([1, 1, 2], [1, 1, 2]), ([7] * 40, [7] * 40),
             (list(range(40)), list(range(40))), (list(range(40, 0, -1)), list(range(0, 80, 2)))]
            + small_hands(1) + small_hands(2) + some_hands(1, 40, 9) + some_hands(2, 3, 40, -9, 9)
            + some_hands(3, 3, 40, LOW, HIGH))
