"""climbrow.reserves: points 19, 20, 21 and the interface."""

import unittest

import plain
from climbrow.errors import BadHands, BadPairing
from climbrow.pairings import rotation
from climbrow.reserves import counter_reserve, reserve, toward

SMALL = (plain.small_hands(0) + plain.small_hands(1) + plain.small_hands(2) + plain.small_hands(3, 2)
         + plain.all_orders(3) + plain.all_orders(4))
HANDS = plain.sample_hands()


def low_and_high(mine, theirs):
    walk = plain.plain_heights(mine, theirs)
    return max(walk), len(mine) + min(walk)


def chosen_pairs(mine, theirs, pairing, at, across_is_won):
    """The pairs across the place that are won (or lost), and those not across it that are lost (or won)."""
    below = plain.plain_deck(mine, theirs)[:at]
    found = []
    for m, t in enumerate(pairing):
        across = (("mine", m) in below) != (("theirs", t) in below)
        if across and plain.won(mine, theirs, m, t) == across_is_won:
            found.append((m, t))
        if not across and plain.won(mine, theirs, m, t) != across_is_won:
            found.append((m, t))
    return found


def has(pairing, pairs):
    return sum(1 for m, t in pairs if pairing[m] == t)


class ReserveTest(plain.Case, unittest.TestCase):

    def test_the_pairs_of_point_19(self):
        for mine, theirs in SMALL + HANDS:
            walk = plain.plain_heights(mine, theirs)
            pairing = rotation(mine, theirs, len(mine) + min(walk))
            expected = chosen_pairs(mine, theirs, pairing, walk.index(max(walk)), False)
            self.assertEqual(reserve(mine, theirs), expected)

    def test_the_pairs_of_point_20(self):
        for mine, theirs in SMALL + HANDS:
            walk = plain.plain_heights(mine, theirs)
            pairing = rotation(mine, theirs, max(walk))
            expected = chosen_pairs(mine, theirs, pairing, walk.index(min(walk)), True)
            self.assertEqual(counter_reserve(mine, theirs), expected)

    def test_number_of_pairs(self):
        for mine, theirs in SMALL + HANDS:
            low, high = low_and_high(mine, theirs)
            self.assertEqual(len(reserve(mine, theirs)), high - low)
            self.assertEqual(len(counter_reserve(mine, theirs)), high - low)

    def test_what_each_pair_assures(self):
        for mine, theirs in SMALL:
            low, high = low_and_high(mine, theirs)
            pairs, counter_pairs = reserve(mine, theirs), counter_reserve(mine, theirs)
            for pairing in plain.all_pairings(len(mine)):
                found = plain.count_won(mine, theirs, pairing)
                self.assertGreaterEqual(found, low + has(pairing, pairs))
                self.assertLessEqual(found, high - has(pairing, counter_pairs))

    def test_known_answers(self):
        self.assertEqual((reserve([], []), counter_reserve([], [])), ([], []))
        self.assertEqual((reserve([5], [5]), counter_reserve([5], [5])), ([], []))
        self.assertEqual((reserve([2, 4], [1, 3]), counter_reserve([2, 4], [1, 3])), ([(1, 1)], [(0, 1)]))
        self.assertEqual((reserve([3, 3], [1, 5]), counter_reserve([3, 3], [1, 5])), ([], []))
        self.assertEqual((reserve([7] * 40, [7] * 40), counter_reserve([7] * 40, [7] * 40)), ([], []))

    def test_pairs_are_tuples_by_ascending_card_of_mine(self):
        for mine, theirs in HANDS:
            for pairs in (reserve(mine, theirs), counter_reserve(mine, theirs)):
                self.assertEqual(pairs, sorted(pairs))
                self.assertTrue(all(isinstance(pair, tuple) for pair in pairs))

    def test_hands_of_different_lengths(self):
        for call in (reserve, counter_reserve):
            self.raises(BadHands, {"mine_count": 2, "theirs_count": 1}, call, [1, 2], [1])
            self.raises(BadHands, {"mine_count": 0, "theirs_count": 1}, call, [], [1])


class TowardTest(plain.Case, unittest.TestCase):

    def check_toward(self, mine, theirs, pairing):
        low, high = low_and_high(mine, theirs)
        for goal, pairs, end in (("most", reserve(mine, theirs), high), ("least", counter_reserve(mine, theirs), low)):
            present, expected = list(pairing), []
            for m, t in pairs:
                if present[m] != t:
                    other = present.index(t)
                    in_place = has(present, pairs)
                    present[m], present[other] = present[other], present[m]
                    self.assertGreater(has(present, pairs), in_place)
                    expected.append((m, other))
            self.assertEqual(toward(mine, theirs, pairing, goal=goal), expected)
            self.assertLessEqual(len(expected), high - low)
            self.assertEqual(has(present, pairs), high - low)
            self.assertEqual(plain.count_won(mine, theirs, present), end)
        self.assertEqual(toward(mine, theirs, pairing), toward(mine, theirs, pairing, goal="most"))

    def test_small_hands(self):
        for mine, theirs in SMALL[::3]:
            for pairing in plain.all_pairings(len(mine)):
                self.check_toward(mine, theirs, pairing)

    def test_long_hands(self):
        for seed, (mine, theirs) in enumerate(HANDS):
            self.check_toward(mine, theirs, plain.shuffled(seed, len(mine)))

    def test_a_pairing_that_has_the_most_or_the_least_already(self):
        mine, theirs = [1, 2, 5], [3, 4, 6]
        self.assertEqual(reserve(mine, theirs), [(2, 0)])
        self.assertEqual(plain.count_won(mine, theirs, [0, 2, 1]), max(plain.all_results(mine, theirs)))
        self.assertEqual(toward(mine, theirs, [0, 2, 1]), [(2, 0)])
        self.assertEqual(toward(mine, theirs, [1, 2, 0]), [])
        mine, theirs = [1, 2, 4], [3, 5, 6]
        self.assertEqual(counter_reserve(mine, theirs), [(2, 2)])
        self.assertEqual(plain.count_won(mine, theirs, [0, 2, 1]), min(plain.all_results(mine, theirs)))
        self.assertEqual(toward(mine, theirs, [0, 2, 1], goal="least"), [(2, 1)])
        self.assertEqual(toward(mine, theirs, [0, 1, 2], goal="least"), [])

    def test_empty_hands(self):
        self.assertEqual((toward([], [], []), toward([], [], [], goal="least")), ([], []))

    def test_errors_in_their_order(self):
        for goal in ("most", "least"):
            self.raises(BadHands, {"mine_count": 1, "theirs_count": 2}, toward, [1], [1, 2], [9], goal=goal)
            self.raises(BadPairing, {"index": 1}, toward, [1, 2], [1, 2], [0, 0], goal=goal)
            self.raises(BadPairing, {"index": 1}, toward, [1, 2], [1, 2], [0], goal=goal)
            self.raises(BadPairing, {"index": 2}, toward, [1, 2], [1, 2], [0, 1, 2], goal=goal)
            self.raises(BadPairing, {"index": 0}, toward, [1, 2], [1, 2], [-1, 1], goal=goal)


if __name__ == "__main__":
    unittest.main()
