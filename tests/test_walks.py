"""climbrow.walks: points 10, 11 and the interface."""

import unittest

import plain
from climbrow.errors import BadHands, BadPairing, BadPlace
from climbrow.walks import crossing, heights, peak, peak_places, valley, valley_places

HANDS = plain.sample_hands()


class HeightsTest(plain.Case, unittest.TestCase):

    def test_heights_count_the_cards_below(self):
        for mine, theirs in HANDS:
            self.assertEqual(heights(mine, theirs), plain.plain_heights(mine, theirs))

    def test_both_ends_have_the_height_0(self):
        for mine, theirs in HANDS:
            walk = heights(mine, theirs)
            self.assertEqual((len(walk), walk[0], walk[-1]), (2 * len(mine) + 1, 0, 0))

    def test_known_heights(self):
        self.assertEqual(heights([], []), [0])
        self.assertEqual(heights([1], [2]), [0, -1, 0])
        self.assertEqual(heights([2], [2]), [0, 1, 0])
        self.assertEqual(heights([1, 4], [2, 3]), [0, -1, 0, 1, 0])

    def test_peak_and_valley(self):
        for mine, theirs in HANDS:
            walk = plain.plain_heights(mine, theirs)
            self.assertEqual((peak(mine, theirs), valley(mine, theirs)), (max(walk), min(walk)))

    def test_places_of_peak_and_valley(self):
        for mine, theirs in HANDS:
            walk = plain.plain_heights(mine, theirs)
            self.assertEqual(peak_places(mine, theirs), [p for p, h in enumerate(walk) if h == max(walk)])
            self.assertEqual(valley_places(mine, theirs), [p for p, h in enumerate(walk) if h == min(walk)])

    def test_known_places(self):
        self.assertEqual((peak([], []), valley([], [])), (0, 0))
        self.assertEqual((peak_places([], []), valley_places([], [])), ([0], [0]))
        self.assertEqual((peak_places([1, 3], [2, 4]), valley_places([1, 3], [2, 4])), ([0, 2, 4], [1, 3]))
        self.assertEqual((peak([7] * 40, [7] * 40), valley([7] * 40, [7] * 40)), (40, 0))
        self.assertEqual((peak([6] * 40, [7] * 40), valley([6] * 40, [7] * 40)), (0, -40))
        self.assertEqual(peak_places([7] * 40, [7] * 40), [40])
        self.assertEqual(valley_places([7] * 40, [7] * 40), [0, 80])
        self.assertEqual(heights([plain.LOW], [plain.HIGH]), [0, -1, 0])


class CrossingTest(plain.Case, unittest.TestCase):

    def check_crossing(self, mine, theirs, pairing):
        cards = plain.plain_deck(mine, theirs)
        walk = plain.plain_heights(mine, theirs)
        for at in range(2 * len(mine) + 1):
            below = cards[:at]
            across = [(m, t) for m, t in enumerate(pairing) if (("mine", m) in below) != (("theirs", t) in below)]
            won = sum(1 for m, t in across if plain.won(mine, theirs, m, t))
            found = crossing(mine, theirs, pairing, at)
            self.assertEqual(found, (won, len(across) - won))
            self.assertIsInstance(found, tuple)
            self.assertEqual(found[0] - found[1], walk[at])

    def test_all_pairings_of_small_hands(self):
        for mine, theirs in plain.small_hands(0) + plain.small_hands(2) + plain.all_orders(3) + plain.all_orders(4)[::7]:
            for pairing in plain.all_pairings(len(mine)):
                self.check_crossing(mine, theirs, pairing)

    def test_forty_cards(self):
        mine, theirs = plain.some_hands(11, 1, 40, -5, 5)[0]
        self.check_crossing(mine, theirs, plain.shuffled(5, len(mine)))
        mine, theirs = [7] * 40, [7] * 40
        self.assertEqual(crossing(mine, theirs, plain.shuffled(6, 40), 40), (40, 0))

    def test_the_first_and_the_last_place(self):
        for mine, theirs in HANDS:
            pairing = plain.shuffled(1, len(mine))
            self.assertEqual(crossing(mine, theirs, pairing, 0), (0, 0))
            self.assertEqual(crossing(mine, theirs, pairing, 2 * len(mine)), (0, 0))

    def test_known_answers(self):
        self.assertEqual(crossing([1, 4], [2, 3], [1, 0], 2), (1, 1))
        self.assertEqual(crossing([1, 4], [2, 3], [0, 1], 2), (0, 0))
        self.assertEqual(crossing([1, 4], [2, 3], [0, 1], 1), (0, 1))
        self.assertEqual(crossing([], [], [], 0), (0, 0))


class WalkErrorsTest(plain.Case, unittest.TestCase):

    def test_hands_of_different_lengths(self):
        for call in (heights, peak, valley, peak_places, valley_places):
            self.raises(BadHands, {"mine_count": 2, "theirs_count": 1}, call, [1, 2], [1])
            self.raises(BadHands, {"mine_count": 0, "theirs_count": 3}, call, [], [1, 1, 1])

    def test_crossing_raises_what_is_named_first(self):
        self.raises(BadHands, {"mine_count": 1, "theirs_count": 2}, crossing, [1], [1, 2], [5], 9)
        self.raises(BadPairing, {"index": 1}, crossing, [1, 2], [1, 2], [0, 0], 9)
        self.raises(BadPairing, {"index": 1}, crossing, [1, 2], [1, 2], [0], -1)
        self.raises(BadPairing, {"index": 2}, crossing, [1, 2], [1, 2], [1, 0, 0], 0)
        self.raises(BadPlace, {"place": 5}, crossing, [1, 2], [1, 2], [0, 1], 5)
        self.raises(BadPlace, {"place": -1}, crossing, [1, 2], [1, 2], [0, 1], -1)
        self.raises(BadPlace, {"place": 1}, crossing, [], [], [], 1)


if __name__ == "__main__":
    unittest.main()
