"""climbrow.pairings: points 14, 15 (the rotation), 18 and the interface."""

import itertools
import unittest

import plain
from climbrow.errors import BadCard, BadHands, BadPairing, BadPlace
from climbrow.pairings import distance, exchange, marks, result, rotation, way, winners

HANDS = plain.sample_hands()


def swapped(pairing, a, b):
    found = list(pairing)
    found[a], found[b] = found[b], found[a]
    return found


class ResultTest(plain.Case, unittest.TestCase):

    def check_pairing(self, mine, theirs, pairing):
        expected = [plain.won(mine, theirs, m, t) for m, t in enumerate(pairing)]
        found = marks(mine, theirs, pairing)
        self.assertEqual(found, expected)
        self.assertTrue(all(mark is True or mark is False for mark in found))
        self.assertEqual(winners(mine, theirs, pairing), [m for m, mark in enumerate(expected) if mark])
        self.assertEqual(result(mine, theirs, pairing), expected.count(True))

    def test_all_pairings_of_small_hands(self):
        for mine, theirs in [([], [])] + plain.small_hands(2) + plain.small_hands(3, 2) + plain.all_orders(4):
            for pairing in plain.all_pairings(len(mine)):
                self.check_pairing(mine, theirs, pairing)

    def test_long_hands_and_limits(self):
        for mine, theirs in HANDS:
            self.check_pairing(mine, theirs, plain.shuffled(8, len(mine)))

    def test_known_answers(self):
        self.assertEqual(marks([3, 1, 2], [2, 2, 2], [1, 2, 0]), [True, False, True])
        self.assertEqual(winners([3, 1, 2], [2, 2, 2], [1, 2, 0]), [0, 2])
        self.assertEqual(result([3, 1, 2], [2, 2, 2], [1, 2, 0]), 2)
        self.assertEqual((marks([], [], []), winners([], [], []), result([], [], [])), ([], [], 0))

    def test_errors_in_their_order(self):
        for call in (marks, winners, result):
            self.raises(BadHands, {"mine_count": 2, "theirs_count": 1}, call, [1, 2], [1], [7])
            self.raises(BadPairing, {"index": 0}, call, [1, 2], [1, 2], [2, 1])
            self.raises(BadPairing, {"index": 1}, call, [1, 2], [1, 2], [0, -1])
            self.raises(BadPairing, {"index": 1}, call, [1, 2], [1, 2], [1, 1])
            self.raises(BadPairing, {"index": 1}, call, [1, 2], [1, 2], [1])
            self.raises(BadPairing, {"index": 0}, call, [1, 2], [1, 2], [])
            self.raises(BadPairing, {"index": 2}, call, [1, 2], [1, 2], [1, 0, 2])
            self.raises(BadPairing, {"index": 2}, call, [1, 2], [1, 2], [1, 0, 0])
            self.raises(BadPairing, {"index": 0}, call, [], [], [0])
            self.raises(BadPairing, {"index": 0}, call, [1, 2, 3], [1, 2, 3], [5])
            self.raises(BadPairing, {"index": 2}, call, [1, 2, 3, 4], [1, 2, 3, 4], [3, 1, 3])


class RotationTest(plain.Case, unittest.TestCase):

    def test_partners_are_r_ranks_further(self):
        for mine, theirs in HANDS:
            n = len(mine)
            mine_up = [index for side, index in plain.plain_deck(mine, theirs) if side == "mine"]
            theirs_up = [index for side, index in plain.plain_deck(mine, theirs) if side == "theirs"]
            for r in range(n + 1):
                expected = [None] * n
                for rank, m in enumerate(mine_up):
                    expected[m] = theirs_up[rank + r if rank + r < n else rank + r - n]
                self.assertEqual(rotation(mine, theirs, r), expected)

    def test_results_of_rotations(self):
        for mine, theirs in (plain.small_hands(1) + plain.small_hands(2) + plain.small_hands(3, 2)
                             + plain.all_orders(3) + plain.all_orders(4)):
            results = plain.all_results(mine, theirs)
            self.assertEqual(sorted(set(results)), list(range(min(results), max(results) + 1)))
            for r in range(len(mine) + 1):
                found = plain.count_won(mine, theirs, rotation(mine, theirs, r))
                self.assertEqual(found == r, min(results) <= r <= max(results))

    def test_known_answers(self):
        self.assertEqual(rotation([], [], 0), [])
        self.assertEqual(rotation([9, 1, 5], [2, 8, 4], 0), [1, 0, 2])
        self.assertEqual(rotation([9, 1, 5], [2, 8, 4], 1), [0, 2, 1])
        self.assertEqual(rotation([9, 1, 5], [2, 8, 4], 3), [1, 0, 2])

    def test_errors_in_their_order(self):
        self.raises(BadHands, {"mine_count": 0, "theirs_count": 1}, rotation, [], [1], -1)
        self.raises(BadPlace, {"place": -1}, rotation, [1, 2], [1, 2], -1)
        self.raises(BadPlace, {"place": 3}, rotation, [1, 2], [1, 2], 3)
        self.raises(BadPlace, {"place": 1}, rotation, [], [], 1)


class ExchangeTest(plain.Case, unittest.TestCase):

    def test_partners_are_swapped(self):
        for n in range(5):
            for pairing in plain.all_pairings(n):
                for a, b in itertools.product(range(n), repeat=2):
                    self.assertEqual(exchange(pairing, a, b), swapped(pairing, a, b))
        self.assertEqual(exchange([2, 0, 1], 0, 2), [1, 0, 2])

    def test_a_card_exchanged_with_itself(self):
        pairing = [1, 0, 2]
        self.assertEqual(exchange(pairing, 1, 1), [1, 0, 2])
        self.assertIsNot(exchange(pairing, 1, 1), pairing)

    def test_the_result_changes_by_at_most_1(self):
        for mine, theirs in plain.small_hands(2) + plain.all_orders(3):
            for pairing in plain.all_pairings(len(mine)):
                for a, b in itertools.combinations(range(len(mine)), 2):
                    change = result(mine, theirs, exchange(pairing, a, b)) - result(mine, theirs, pairing)
                    self.assertIn(change, (-1, 0, 1))

    def test_errors_in_their_order(self):
        self.raises(BadPairing, {"index": 1}, exchange, [0, 0], 5, 6)
        self.raises(BadPairing, {"index": 0}, exchange, [2, 0], 0, 1)
        self.raises(BadPairing, {"index": 2}, exchange, [1, 0, 3], 0, 1)
        self.raises(BadPairing, {"index": 1}, exchange, [1, -1, 0], 0, 1)
        self.raises(BadCard, {"side": "mine", "index": 2}, exchange, [1, 0], 2, 3)
        self.raises(BadCard, {"side": "mine", "index": -1}, exchange, [1, 0], -1, 0)
        self.raises(BadCard, {"side": "mine", "index": 3}, exchange, [1, 0], 1, 3)
        self.raises(BadCard, {"side": "mine", "index": -2}, exchange, [1, 0], 1, -2)
        self.raises(BadCard, {"side": "mine", "index": 4}, exchange, [1, 0], 4, 4)
        self.raises(BadCard, {"side": "mine", "index": 0}, exchange, [], 0, 0)


def fewest_exchanges(first, second):
    """The length of a shortest list of exchanges, by trying all of them."""
    reached, steps = {tuple(first)}, 0
    while tuple(second) not in reached:
        reached = {tuple(swapped(pairing, a, b)) for pairing in reached
                   for a, b in itertools.combinations(range(len(first)), 2)}
        steps += 1
    return steps


def cycles(first, second):
    """The number of cycles of point 18."""
    left, found = set(range(len(first))), 0
    while left:
        found += 1
        m = min(left)
        while m in left:
            left.remove(m)
            m = second.index(first[m])
    return found


class WayTest(plain.Case, unittest.TestCase):

    def pairs_of_pairings(self):
        found = [(first, second) for n in range(5) for first in plain.all_pairings(n)
                 for second in plain.all_pairings(n)]
        return found + [(plain.shuffled(seed, 40), plain.shuffled(seed + 100, 40)) for seed in range(10)]

    def test_way_leads_from_the_first_to_the_second_pairing(self):
        for first, second in self.pairs_of_pairings():
            present, expected = list(first), []
            for m in range(len(first)):
                if present[m] != second[m]:
                    other = present.index(second[m])
                    expected.append((m, other))
                    present = swapped(present, m, other)
            self.assertEqual(present, second)
            self.assertEqual(way(first, second), expected)

    def test_distance_is_n_minus_the_number_of_cycles(self):
        for first, second in self.pairs_of_pairings():
            self.assertEqual(distance(first, second), len(first) - cycles(first, second))
            self.assertEqual(distance(first, second), len(way(first, second)))

    def test_no_shorter_way_exists(self):
        for n in range(5):
            for first in plain.all_pairings(n)[::3]:
                for second in plain.all_pairings(n):
                    self.assertEqual(distance(first, second), fewest_exchanges(first, second))

    def test_a_pairing_against_itself(self):
        for pairing in ([], [0], [2, 0, 1], plain.shuffled(3, 40)):
            self.assertEqual(way(pairing, list(pairing)), [])
            self.assertEqual(distance(pairing, list(pairing)), 0)
            self.assertEqual(way(pairing, pairing), [])

    def test_known_answers(self):
        self.assertEqual(way([0, 1, 2], [1, 2, 0]), [(0, 1), (1, 2)])
        self.assertEqual(way([0, 1, 2], [2, 1, 0]), [(0, 2)])
        self.assertEqual(distance([0, 1, 2, 3], [1, 0, 3, 2]), 2)
        self.assertEqual(distance([0, 1, 2, 3], [1, 2, 3, 0]), 3)

    def test_errors_in_their_order(self):
        for call in (distance, way):
            self.raises(BadPairing, {"index": 1}, call, [0, 0], [5])
            self.raises(BadPairing, {"index": 0}, call, [1], [0])
            self.raises(BadPairing, {"index": 2}, call, [0, 1, -1], [0, 0])
            self.raises(BadPairing, {"index": 1}, call, [1, 0], [1, 1])
            self.raises(BadPairing, {"index": 1}, call, [1, 0], [1])
            self.raises(BadPairing, {"index": 2}, call, [1, 0], [1, 0, 2])
            self.raises(BadPairing, {"index": 0}, call, [], [0])
            self.raises(BadPairing, {"index": 0}, call, [0], [])


if __name__ == "__main__":
    unittest.main()
