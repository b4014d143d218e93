"""climbrow.papers: points 68 to 74 and the interface."""

import itertools
import random
import unittest

import plain
import plainpapers
from climbrow.errors import BadCard, BadHands, BadWord
from climbrow.levels import mates, row_of
from climbrow.lookers import look_reserve, look_row, look_span, look_telling, look_value, look_winners
from climbrow.papers import reserve_paper, row_paper, span_paper, telling_paper, value_paper, winners_paper
from climbrow.reserves import reserve
from climbrow.rows import value_of
from climbrow.told import pairing_told

SIDES = ("mine", "theirs")
HANDS = plain.sample_hands()
SMALL = [([], [])] + plain.small_hands(1) + plain.small_hands(2) + plain.all_orders(3) + plain.all_orders(4)[::7]


def rotation(mine, theirs, r):
    """Point 15."""
    ranks = {side: [k for whose, k in plain.plain_deck(mine, theirs) if whose == side] for side in SIDES}
    n = len(mine)
    found = {m: ranks["theirs"][(rank + r) % n] for rank, m in enumerate(ranks["mine"])}
    return [found[m] for m in range(n)]


def subsets(n):
    return [list(cards) for k in range(n + 1) for cards in itertools.combinations(range(n), k)]


class SpanTest(plain.Case, unittest.TestCase):

    def test_rotations_and_lowest_places(self):
        for mine, theirs in HANDS + plain.all_orders(4):
            walk, n = plain.plain_heights(mine, theirs), len(mine)
            low, high = max(walk), n + min(walk)
            expected = ("span", low, walk.index(low), rotation(mine, theirs, low) if n else [],
                        high, walk.index(min(walk)), rotation(mine, theirs, high) if n else [])
            found = span_paper(mine, theirs)
            self.assertEqual(found, expected)
            self.assertIsInstance(found, tuple)
            self.assertIs(look_span(mine, theirs, found), True)

    def test_known_answers(self):
        self.assertEqual(span_paper([1, 1, 2], [1, 1, 2]), ("span", 2, 2, [2, 0, 1], 3, 0, [0, 1, 2]))
        self.assertEqual(span_paper([], []), ("span", 0, 0, [], 0, 0, []))
        self.assertEqual(span_paper([plain.LOW], [plain.HIGH]), ("span", 0, 0, [0], 0, 1, [0]))


class RowTest(plain.Case, unittest.TestCase):

    def test_the_row_and_the_mates(self):
        for mine, theirs in HANDS:
            found = row_paper(mine, theirs)
            self.assertEqual(found, ("row", row_of(mine, theirs), mates(mine, theirs)))
            self.assertIs(look_row(mine, theirs, found), True)
        self.assertEqual(row_paper([1, 1, 2], [1, 1, 2]), ("row", [0, 0, 1], [1, 0, 2]))
        self.assertEqual(row_paper([], []), ("row", [], []))

    def test_the_value(self):
        source = random.Random(161)
        for mine, theirs in HANDS:
            for many in SIDES:
                word = "".join(source.choice("MT") for _ in mine)
                found = value_paper(mine, theirs, word, many=many)
                expected = value_of(mine, theirs, word, many=many)
                self.assertEqual(found, ("value", word, many, expected, row_of(mine, theirs), mates(mine, theirs)))
                self.assertIs(look_value(mine, theirs, found), True)
                if many == "mine":
                    self.assertEqual(value_paper(mine, theirs, word), found)

    def test_known_values(self):
        self.assertEqual(value_paper([1, 1, 2], [1, 1, 2], "TTM"), ("value", "TTM", "mine", 3, [0, 0, 1], [1, 0, 2]))
        self.assertEqual(value_paper([1, 1, 2], [1, 1, 2], "TTM", many="theirs")[2:4], ("theirs", 2))
        self.assertEqual(value_paper([], [], ""), ("value", "", "mine", 0, [], []))


class WinnersTest(plain.Case, unittest.TestCase):

    def test_all_sets_of_small_hands(self):
        heads = set()
        for mine, theirs in SMALL:
            possible = {tuple(plainpapers.winners_of(mine, theirs, pairing))
                        for pairing in plain.all_pairings(len(mine))}
            for cards in subsets(len(mine)):
                found = winners_paper(mine, theirs, cards)
                self.assertEqual(winners_paper(mine, theirs, cards[::-1]), found)
                if tuple(cards) in possible:
                    pairing = pairing_told(mine, theirs, len(cards), won=cards,
                                           lost=[m for m in range(len(mine)) if m not in cards])
                    self.assertEqual(found, ("winners", cards, pairing))
                else:
                    places = [p for p in range(2 * len(mine) + 1) if plainpapers.breaks(mine, theirs, cards, p)]
                    self.assertEqual(found, ("no winners", cards, places[0]))
                self.assertIs(look_winners(mine, theirs, found), True)
                heads.add(found[0])
        self.assertEqual(heads, {"winners", "no winners"})

    def test_longer_hands(self):
        source = random.Random(162)
        heads = set()
        for mine, theirs in HANDS:
            pairing = plain.shuffled(len(mine), len(mine))
            winning = plainpapers.winners_of(mine, theirs, pairing)
            for cards in (winning, source.sample(range(len(mine)), source.randint(0, len(mine)))):
                cards = source.sample(cards, len(cards))
                found = winners_paper(mine, theirs, cards)
                self.assertEqual(found[1], sorted(cards))
                self.assertIs(look_winners(mine, theirs, found), True)
                heads.add(found[0])
            self.assertEqual(winners_paper(mine, theirs, winning)[0], "winners")
        self.assertEqual(heads, {"winners", "no winners"})

    def test_known_answers(self):
        self.assertEqual(winners_paper([1, 1, 2], [1, 1, 2], [2, 0]), ("winners", [0, 2], [0, 2, 1]))
        self.assertEqual(winners_paper([1, 1, 2], [1, 1, 2], [1, 0]), ("no winners", [0, 1], 5))
        self.assertEqual(winners_paper([], [], []), ("winners", [], []))

    def test_the_cards_stay_as_they_were(self):
        cards = [2, 0]
        winners_paper([1, 1, 2], [1, 1, 2], cards)[1].append(5)
        self.assertEqual(cards, [2, 0])


class ReserveTest(plain.Case, unittest.TestCase):

    def test_the_reserve_its_place_and_its_rotation(self):
        for mine, theirs in HANDS:
            walk = plain.plain_heights(mine, theirs)
            pairing = rotation(mine, theirs, len(mine) + min(walk)) if mine else []
            place = walk.index(max(walk))
            found = reserve_paper(mine, theirs)
            self.assertEqual(found, ("reserve", plainpapers.listed(mine, theirs, pairing, place), place, pairing))
            self.assertEqual(found[1], reserve(mine, theirs))
            self.assertIs(look_reserve(mine, theirs, found), True)
        self.assertEqual(reserve_paper([1, 1, 2], [1, 1, 2]), ("reserve", [(2, 2)], 2, [0, 1, 2]))
        self.assertEqual(reserve_paper([], []), ("reserve", [], 0, []))


class TellingTest(plain.Case, unittest.TestCase):

    def check(self, mine, theirs, told):
        """Compare the paper of a telling with points 73 and 74; return its head and its reason."""
        given = dict(zip(("pairs", "won", "lost"), told))
        found, plainly = telling_paper(mine, theirs, **given), plainpapers.Told(mine, theirs, *told)
        self.assertIs(look_telling(mine, theirs, found, **given), True)
        for reason in ("winners", "height"):
            places = [p for p in plainly.places if plainly.exists(reason, p)]
            if places:
                self.assertEqual(found, ("contradiction", reason, places[0]))
                return found[:2]
        demands, rooms = [plainly.demand(p) for p in plainly.places], [plainly.room(p) for p in plainly.places]
        lowest, highest = plainly.sure + max(demands), plainly.sure + min(rooms)
        expected = ("agrees", lowest, demands.index(max(demands)), pairing_told(mine, theirs, lowest, **given),
                    highest, rooms.index(min(rooms)), pairing_told(mine, theirs, highest, **given))
        self.assertEqual(found, expected)
        return found[0], lowest < highest

    def test_tellings_of_small_hands(self):
        source, heads = random.Random(163), set()
        for mine, theirs in SMALL:
            for told in plainpapers.some_tellings(source, mine, theirs, 12):
                heads.add(self.check(mine, theirs, told))
        self.assertEqual(heads, {("agrees", True), ("agrees", False),
                                 ("contradiction", "winners"), ("contradiction", "height")})

    def test_longer_hands(self):
        source = random.Random(164)
        for mine, theirs in plain.some_hands(165, 12, 40, 0, 30) + [([7] * 40, [7] * 40)]:
            for told in plainpapers.some_tellings(source, mine, theirs, 4):
                self.check(mine, theirs, told)

    def test_the_results_are_those_of_all_pairings(self):
        source = random.Random(166)
        for mine, theirs in SMALL:
            for told in plainpapers.some_tellings(source, mine, theirs, 5):
                found = telling_paper(mine, theirs, **dict(zip(("pairs", "won", "lost"), told)))
                results = [plain.count_won(mine, theirs, pairing) for pairing in plain.all_pairings(len(mine))
                           if plainpapers.agrees(mine, theirs, pairing, *told)]
                self.assertEqual(found[0], "agrees" if results else "contradiction")
                if results:
                    self.assertEqual((found[1], found[4]), (min(results), max(results)))

    def test_known_answers(self):
        mine, theirs = [1, 1, 2], [1, 1, 2]
        self.assertEqual(telling_paper(mine, theirs), ("agrees", 2, 2, [2, 0, 1], 3, 0, [0, 1, 2]))
        self.assertEqual(telling_paper(mine, theirs, lost=[0]), ("agrees", 2, 2, [2, 0, 1], 2, 0, [2, 0, 1]))
        self.assertEqual(telling_paper(mine, theirs, lost=[2]), ("contradiction", "height", 5))
        self.assertEqual(telling_paper([1], [2], won=[0]), ("contradiction", "winners", 1))
        self.assertEqual(telling_paper([1], [2], pairs=[(0, 0)]), ("agrees", 0, 0, [0], 0, 0, [0]))
        self.assertEqual(telling_paper([], []), ("agrees", 0, 0, [], 0, 0, []))

    def test_winners_are_named_before_heights(self):
        # The first reason exists at place 4 and above only, the second one at place 2 already.
        mine, theirs = [3, 5, 7, 9], [1, 2, 8, 9]
        plainly = plainpapers.Told(mine, theirs, [], [0, 1, 2], [3])
        self.assertTrue(plainly.exists("winners", 5))
        self.assertEqual(telling_paper(mine, theirs, won=[0, 1, 2], lost=[3])[:2], ("contradiction", "winners"))


class WrongCallsTest(plain.Case, unittest.TestCase):

    def test_hands_of_different_lengths(self):
        for call, *more in ((span_paper,), (row_paper,), (reserve_paper,), (value_paper, "x"), (winners_paper, [9])):
            self.raises(BadHands, {"mine_count": 1, "theirs_count": 2}, call, [1], [1, 2], *more)
            self.raises(BadHands, {"mine_count": 1, "theirs_count": 0}, call, [1], [], *more)
        self.raises(BadHands, {"mine_count": 1, "theirs_count": 2}, telling_paper, [1], [1, 2], won=[7])

    def test_wrong_words(self):
        for many in SIDES:
            self.raises(BadWord, {"position": 1}, value_paper, [1, 2], [1, 2], "M", many=many)
            self.raises(BadWord, {"position": 2}, value_paper, [1, 2], [1, 2], "MTM", many=many)
            self.raises(BadWord, {"position": 1}, value_paper, [1, 2], [1, 2], "Mx", many=many)
            self.raises(BadWord, {"position": 0}, value_paper, [], [], "T", many=many)

    def test_wrong_cards(self):
        hands = [1, 2, 3], [1, 2, 3]
        for cards, index in (([-1], -1), ([3], 3), ([0, 0], 0), ([2, 1, 2, 9], 2), ([2, 9, 2], 9)):
            self.raises(BadCard, {"side": "mine", "index": index}, winners_paper, *hands, cards)
        self.raises(BadCard, {"side": "mine", "index": 2}, telling_paper, *hands, won=[2], lost=[2])
        self.raises(BadCard, {"side": "theirs", "index": 3}, telling_paper, *hands, pairs=[(0, 3), (0, 0)])
        self.raises(BadCard, {"side": "theirs", "index": 1}, telling_paper, *hands, pairs=[(0, 1), (2, 1)], won=[-1])
        self.raises(BadCard, {"side": "mine", "index": -1}, telling_paper, *hands, pairs=[(0, 1)], won=[-1], lost=[0])


if __name__ == "__main__":
    unittest.main()
