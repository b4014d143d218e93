"""climbrow.told: points 52 to 56 and the interface."""

import itertools
import math
import random
import unittest

import plain
from climbrow.errors import BadCard, BadHands, Contradiction, Unreachable
from climbrow.told import breaking_place, count_winner_sets, forced_marks, pairing_told, results_told

HANDS = plain.small_hands(1, 2) + plain.small_hands(2) + plain.all_orders(3)
CALLS = (results_told, forced_marks)


def marks_of(mine, theirs, pairing):
    return [plain.won(mine, theirs, m, t) for m, t in enumerate(pairing)]


def subsets(n):
    return [list(cards) for k in range(n + 1) for cards in itertools.combinations(range(n), k)]


def possible_sets(mine, theirs):
    """All sets of winners that some pairing has, as sorted lists."""
    found = {tuple(m for m, mark in enumerate(marks_of(mine, theirs, pairing)) if mark)
             for pairing in plain.all_pairings(len(mine))}
    return [list(cards) for cards in sorted(found)]


def failing_places(mine, theirs, cards):
    """Point 52: the places at which one of the two conditions fails."""
    order, walk, found = plain.plain_deck(mine, theirs), plain.plain_heights(mine, theirs), []
    for at in range(len(order) + 1):
        low = [m for m in cards if ("mine", m) in order[:at]]
        their_count = sum(1 for side, _ in order[:at] if side == "theirs")
        if len(low) > their_count or len(cards) - len(low) < walk[at]:
            found.append(at)
    return found


def all_tellings(n):
    """All tellings of hands of n cards: pairs, won cards and lost cards."""
    found = []
    for count in range(n + 1):
        for chosen in itertools.combinations(range(n), count):
            for partners in itertools.permutations(range(n), count):
                rest = [m for m in range(n) if m not in chosen]
                for told in itertools.product("WLO", repeat=len(rest)):
                    found.append((list(zip(chosen, partners)), [m for m, x in zip(rest, told) if x == "W"],
                                  [m for m, x in zip(rest, told) if x == "L"]))
    return found


def agreeing(mine, theirs, pairs, won, lost):
    """All pairings that agree with a telling."""
    found = []
    for pairing in plain.all_pairings(len(mine)):
        marks = marks_of(mine, theirs, pairing)
        if (all(pairing[m] == t for m, t in pairs) and all(marks[m] for m in won)
                and not any(marks[m] for m in lost)):
            found.append(pairing)
    return found


def pairing_in_words(mine, theirs, wanted, pairs, won, lost):
    """Point 55, step by step."""
    gone = [("mine", m) for m, _ in pairs] + [("theirs", t) for _, t in pairs]
    cards = [card for card in plain.plain_deck(mine, theirs) if card not in gone]
    told = [m for m, _ in pairs] + list(won) + list(lost)
    opened = [m for side, m in cards if side == "mine" and m not in told]
    count = wanted - len(won) - sum(plain.won(mine, theirs, m, t) for m, t in pairs)
    winning = list(won) + (opened[-count:] if count else [])
    found = dict(pairs)
    for at, (side, m) in enumerate(cards):
        if side == "mine" and m in winning:
            found[m] = [t for whose, t in cards[:at] if whose == "theirs" and t not in found.values()][0]
    rest = [t for side, t in cards if side == "theirs" and t not in found.values()]
    losing = [m for side, m in cards if side == "mine" and m not in found]
    found.update(zip(losing, rest))
    return [found[m] for m in range(len(mine))]


def marks_in_words(mine, theirs, pairings):
    """Point 56: the mark on which all pairings agree."""
    columns = zip(*[marks_of(mine, theirs, pairing) for pairing in pairings])
    return [column[0] if len(set(column)) == 1 else None for column in columns]


class WinnersTest(plain.Case, unittest.TestCase):

    def test_a_set_breaks_nowhere_exactly_if_some_pairing_has_it(self):
        for mine, theirs in HANDS + plain.small_hands(3, 2) + plain.all_orders(4) + [([], [])]:
            possible = possible_sets(mine, theirs)
            for cards in subsets(len(mine)):
                expected = None
                if cards not in possible:
                    expected = failing_places(mine, theirs, cards)[0]
                self.assertEqual(breaking_place(mine, theirs, cards), expected, (mine, theirs, cards))
                self.assertEqual(breaking_place(mine, theirs, cards[::-1]), expected)

    def test_larger_hands_break_where_the_conditions_fail(self):
        source = random.Random(101)
        broken = 0
        for mine, theirs in plain.some_hands(102, 150, 40, 0, 60):
            cards = [m for m in range(len(mine)) if source.random() < source.choice((0.2, 0.5, 0.8))]
            source.shuffle(cards)
            places = failing_places(mine, theirs, cards)
            self.assertEqual(breaking_place(mine, theirs, cards), places[0] if places else None)
            broken += bool(places)
        self.assertTrue(20 < broken < 140, broken)

    def test_the_number_of_sets(self):
        for mine, theirs in HANDS + plain.small_hands(3, 2) + plain.all_orders(4) + [([], [])]:
            possible = possible_sets(mine, theirs)
            for k in range(-2, len(mine) + 3):
                self.assertEqual(count_winner_sets(mine, theirs, k), sum(1 for cards in possible if len(cards) == k))

    def test_equal_numbers_are_different_cards(self):
        for mine, theirs in [([1, 1, 2], [1, 2, 2]), ([3, 3, 3, 3], [3, 4, 4, 3]), ([2, 1, 2, 1], [2, 1, 3, 1])]:
            possible = possible_sets(mine, theirs)
            self.assertEqual([count_winner_sets(mine, theirs, k) for k in range(len(mine) + 1)],
                             [sum(1 for cards in possible if len(cards) == k) for k in range(len(mine) + 1)])

    def test_40_cards(self):
        # Going up, their cards and mine take turns: my last card must win, the others are free.
        first_theirs = list(range(1, 80, 2)), list(range(0, 80, 2))
        self.assertEqual([count_winner_sets(*first_theirs, k) for k in (0, 1, 20, 40, 41)],
                         [0, 1, math.comb(39, 19), 1, 0])
        # Here my first card must lose, the others are free.
        first_mine = list(range(0, 80, 2)), list(range(1, 80, 2))
        self.assertEqual([count_winner_sets(*first_mine, k) for k in (-1, 0, 20, 39, 40)],
                         [0, 1, math.comb(39, 20), 1, 0])
        self.assertEqual([count_winner_sets([7] * 40, [7] * 40, k) for k in (0, 39, 40, 41)], [0, 0, 1, 0])
        self.assertEqual([count_winner_sets([plain.LOW] * 40, [plain.HIGH] * 40, k) for k in (0, 1, 40)], [1, 0, 0])
        self.assertEqual(breaking_place(*first_theirs, list(range(39))), 79)
        self.assertIsNone(breaking_place(*first_theirs, [39]))
        self.assertEqual(breaking_place(*first_mine, [0]), 1)

    def test_known_answers(self):
        mine, theirs = [1, 1, 2], [1, 1, 2]
        self.assertEqual([breaking_place(mine, theirs, cards) for cards in ([0, 2], [0, 1], [0], [2], [2, 1, 0], [])],
                         [None, 5, 2, 2, None, 1])
        self.assertEqual([count_winner_sets(mine, theirs, k) for k in range(-1, 5)], [0, 0, 0, 2, 1, 0])
        self.assertIsNone(breaking_place([], [], []))
        self.assertEqual([count_winner_sets([], [], k) for k in (-1, 0, 1)], [0, 1, 0])

    def test_wrong_calls(self):
        self.raises(BadHands, {"mine_count": 1, "theirs_count": 2}, breaking_place, [1], [1, 2], [5])
        self.raises(BadHands, {"mine_count": 1, "theirs_count": 0}, count_winner_sets, [1], [], 9)
        hands = [1, 2, 3], [1, 2, 3]
        for cards, index in (([-1], -1), ([3], 3), ([0, 0], 0), ([2, 1, 2, 9], 2), ([2, 9, 2], 9), ([0, 1, 2, 3], 3)):
            self.raises(BadCard, {"side": "mine", "index": index}, breaking_place, *hands, cards)
        self.raises(BadCard, {"side": "mine", "index": 0}, breaking_place, [], [], [0])


class ResultsTest(plain.Case, unittest.TestCase):

    def check(self, hands, told):
        """Compare all answers about one telling with all pairings; return the number of pairings that agree."""
        mine, theirs = hands
        given = dict(zip(("pairs", "won", "lost"), told))
        pairings = agreeing(mine, theirs, *told)
        if not pairings:
            for call in CALLS:
                self.raises(Contradiction, {}, call, mine, theirs, **given)
            for wanted in (-1, 0, 1, 99):
                self.raises(Contradiction, {}, pairing_told, mine, theirs, wanted, **given)
                self.raises(Contradiction, {}, forced_marks, mine, theirs, wanted=wanted, **given)
            return 0
        results = [plain.count_won(mine, theirs, pairing) for pairing in pairings]
        lowest, highest = min(results), max(results)
        self.assertEqual(sorted(set(results)), list(range(lowest, highest + 1)))
        self.assertEqual(results_told(mine, theirs, **given), (lowest, highest))
        self.assertEqual(forced_marks(mine, theirs, **given), marks_in_words(mine, theirs, pairings))
        self.assertEqual(forced_marks(mine, theirs, wanted=None, **given), marks_in_words(mine, theirs, pairings))
        for wanted in range(lowest, highest + 1):
            found = pairing_told(mine, theirs, wanted, **given)
            self.assertEqual(found, pairing_in_words(mine, theirs, wanted, *told), (hands, wanted, told))
            self.assertIn(found, pairings)
            self.assertEqual(plain.count_won(mine, theirs, found), wanted)
            having = [pairing for pairing, result in zip(pairings, results) if result == wanted]
            self.assertEqual(forced_marks(mine, theirs, wanted=wanted, **given), marks_in_words(mine, theirs, having))
        for wanted in (lowest - 1, highest + 1, lowest - 7, highest + 7):
            expected = {"wanted": wanted, "lowest": lowest, "highest": highest}
            self.raises(Unreachable, expected, pairing_told, mine, theirs, wanted, **given)
            self.raises(Unreachable, expected, forced_marks, mine, theirs, wanted=wanted, **given)
        return len(pairings)

    def test_all_tellings_of_small_hands(self):
        sizes = set()
        for hands in [([], [])] + plain.small_hands(1, 2) + plain.small_hands(2):
            for told in all_tellings(len(hands[0])):
                sizes.add(self.check(hands, told))
        for hands in plain.all_orders(3) + plain.small_hands(3, 2)[::5]:
            for told in all_tellings(3)[::2]:
                sizes.add(self.check(hands, told))
        self.assertEqual(sizes, {0, 1, 2, 3, 4, 6})

    def test_some_tellings_of_hands_of_4_and_5(self):
        source = random.Random(103)
        tellings = {4: all_tellings(4)}
        for hands in plain.all_orders(4) + plain.small_hands(4, 2)[::11]:
            for told in source.sample(tellings[4], 6):
                self.check(hands, told)
        for hands in source.sample(plain.all_orders(5), 30):
            rest = source.sample(range(5), 5)
            pairs = [(rest.pop(), source.randrange(5))] * source.randint(0, 1)
            self.check(hands, (pairs, rest[:source.randint(0, 2)], rest[2:source.randint(2, 4)]))

    def test_wanted_results_of_longer_hands(self):
        source = random.Random(104)
        for mine, theirs in plain.some_hands(105, 40, 40, 0, 50) + [([7] * 40, [7] * 40),
                                                                    ([plain.LOW, plain.HIGH] * 20, [0] * 40)]:
            n = len(mine)
            whole = plain.shuffled(source.random(), n)
            marks = marks_of(mine, theirs, whole)
            told = [source.choice("POW") for _ in range(n)]
            pairs = [(m, whole[m]) for m in range(n) if told[m] == "P"]
            won = [m for m in range(n) if told[m] == "W" and marks[m]]
            lost = [m for m in range(n) if told[m] == "W" and not marks[m]]
            for part in (pairs, won, lost):
                source.shuffle(part)
            given = {"pairs": pairs, "won": won, "lost": lost}
            lowest, highest = results_told(mine, theirs, **given)
            self.assertTrue(lowest <= sum(marks) <= highest)
            for wanted in sorted({lowest, sum(marks), highest}):
                found = pairing_told(mine, theirs, wanted, **given)
                self.assertEqual(found, pairing_in_words(mine, theirs, wanted, pairs, won, lost))
                made = marks_of(mine, theirs, found)
                self.assertEqual(sum(made), wanted)
                self.assertTrue(all(found[m] == t for m, t in pairs) and all(made[m] for m in won))
                self.assertFalse(any(made[m] for m in lost))
                forced = forced_marks(mine, theirs, wanted=wanted, **given)
                self.assertEqual([mark for mark, x in zip(forced, made) if mark not in (None, x)], [])
            # The told cards are forced, and what all pairings force, those with one result force, too.
            forced = forced_marks(mine, theirs, **given)
            self.assertEqual([forced[m] for m in won + lost], [True] * len(won) + [False] * len(lost))
            self.assertEqual([forced[m] for m, _ in pairs], [marks[m] for m, _ in pairs])
            narrow = forced_marks(mine, theirs, wanted=lowest, **given)
            self.assertEqual([x for mark, x in zip(forced, narrow) if mark is not None],
                             [mark for mark in forced if mark is not None])

    def test_nothing_told(self):
        for mine, theirs in HANDS:
            results = plain.all_results(mine, theirs)
            for given in ({}, {"pairs": [], "won": [], "lost": []}, {"pairs": (), "won": (), "lost": ()}):
                self.assertEqual(results_told(mine, theirs, **given), (min(results), max(results)))
                self.assertEqual(forced_marks(mine, theirs, **given),
                                 marks_in_words(mine, theirs, plain.all_pairings(len(mine))))
                self.assertIn(pairing_told(mine, theirs, max(results), **given), plain.all_pairings(len(mine)))

    def test_lists_and_tuples_in_any_order(self):
        mine, theirs = [4, 1, 3, 5, 2, 6], [2, 3, 5, 1, 6, 4]
        first = {"pairs": [(4, 3), (0, 2)], "won": [5, 2], "lost": [1]}
        second = {"pairs": ((0, 2), (4, 3)), "won": (2, 5), "lost": (1,)}
        for call, *more in ((results_told,), (forced_marks,), (pairing_told, 3), (pairing_told, 4)):
            self.assertEqual(call(mine, theirs, *more, **first), call(mine, theirs, *more, **second))
        self.assertEqual(results_told(mine, theirs, **first), (3, 4))
        self.assertEqual(forced_marks(mine, theirs, wanted=4, **second), forced_marks(mine, theirs, wanted=4, **first))

    def test_known_answers(self):
        mine, theirs = [1, 1, 2], [1, 1, 2]
        self.assertEqual(results_told(mine, theirs, lost=[0]), (2, 2))
        self.raises(Contradiction, {}, results_told, mine, theirs, lost=[2])
        self.assertEqual(results_told(mine, theirs, won=[0]), (2, 3))
        self.assertEqual(results_told(mine, theirs, pairs=[(2, 2)]), (3, 3))
        self.assertEqual(results_told(mine, theirs, pairs=[(2, 2), (0, 0), (1, 1)]), (3, 3))
        self.assertEqual(forced_marks(mine, theirs), [None, None, True])
        self.assertEqual(forced_marks(mine, theirs, wanted=3), [True, True, True])
        self.assertEqual(forced_marks(mine, theirs, lost=[1]), [True, False, True])
        self.assertEqual(pairing_told(mine, theirs, 2), [2, 0, 1])
        self.assertEqual(pairing_told(mine, theirs, 3), [0, 1, 2])
        self.assertEqual(results_told([], []), (0, 0))
        self.assertEqual([pairing_told([], [], 0), forced_marks([], []), forced_marks([], [], wanted=0)], [[], [], []])

    def test_a_wanted_result_of_0(self):
        self.assertEqual(forced_marks([1, 3], [2, 4], wanted=0), [False, False])
        self.assertEqual(forced_marks([1, 3], [2, 4]), [False, None])
        self.raises(Unreachable, {"wanted": 0, "lowest": 1, "highest": 1}, forced_marks, [1], [1], wanted=0)


class WrongCallsTest(plain.Case, unittest.TestCase):

    def bad(self, side, index, n=3, **told):
        """Each function raises BadCard for this telling, also if no pairing agrees and if the wanted result is none."""
        hands = list(range(n)), list(range(n))
        for call in CALLS:
            self.raises(BadCard, {"side": side, "index": index}, call, *hands, **told)
        for wanted in (0, 77):
            self.raises(BadCard, {"side": side, "index": index}, pairing_told, *hands, wanted, **told)
            self.raises(BadCard, {"side": side, "index": index}, forced_marks, *hands, wanted=wanted, **told)

    def test_hands_of_different_lengths_come_first(self):
        for call in CALLS:
            self.raises(BadHands, {"mine_count": 2, "theirs_count": 1}, call, [1, 2], [1], won=[9])
        self.raises(BadHands, {"mine_count": 0, "theirs_count": 1}, pairing_told, [], [1], 9, pairs=[(4, 4)])

    def test_cards_that_do_not_exist(self):
        for index in (-1, 3, 8, -3):
            self.bad("mine", index, pairs=[(0, 1), (index, -7)])
            self.bad("theirs", index, pairs=[(0, 1), (1, index)])
            self.bad("mine", index, won=[0, index])
            self.bad("mine", index, lost=(1, index))
        self.bad("mine", 0, n=0, won=[0])
        self.bad("mine", 0, n=0, pairs=[(0, 0)])

    def test_cards_that_come_twice(self):
        self.bad("mine", 1, pairs=[(1, 0), (1, 2)])
        self.bad("theirs", 0, pairs=[(1, 0), (2, 0)])
        self.bad("mine", 1, pairs=[(1, 0), (1, 0)])
        self.bad("mine", 2, won=[2, 0, 2])
        self.bad("mine", 2, lost=[2, 0, 2])
        self.bad("mine", 0, pairs=[(0, 0)], won=[0])
        self.bad("mine", 0, pairs=[(0, 1)], lost=[0])
        self.bad("mine", 2, won=[1, 2], lost=[2, 1])

    def test_the_first_wrong_card_counts(self):
        self.bad("theirs", 5, pairs=[(0, 5), (7, 0)], won=[9], lost=[8])
        self.bad("mine", 7, pairs=[(0, 0), (7, 5)], won=[0])
        self.bad("mine", 9, pairs=[(0, 0)], won=[1, 9], lost=[8, 0])
        self.bad("mine", 8, pairs=[(0, 0)], won=[1], lost=[8, 0])
        # Their card 0 of the first pair is no card of mine, and my cards do not bar theirs.
        self.assertEqual(results_told([1, 2], [1, 2], pairs=[(1, 0)], won=[], lost=[0]), (1, 1))
        self.assertEqual(results_told([2, 1], [1, 2], pairs=[(1, 0), (0, 1)]), (2, 2))

    def test_contradictions_come_before_the_wanted_result(self):
        for told in ({"won": [0, 1]}, {"lost": [1]}, {"pairs": [(1, 0)], "won": [0]}):
            for wanted in (-1, 0, 2, 9):
                self.raises(Contradiction, {}, pairing_told, [1, 3], [2, 3], wanted, **told)
                self.raises(Contradiction, {}, forced_marks, [1, 3], [2, 3], wanted=wanted, **told)


if __name__ == "__main__":
    unittest.main()
