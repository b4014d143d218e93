"""climbrow.league: points 66, 67 and the interface."""

import itertools
import random
import unittest

import plain
from climbrow.errors import BadHands, BadPairing
from climbrow.league import beats_all, commonest, joined_pairing, least_table, loss_table
from climbrow.pairings import result
from climbrow.spans import least, most

CALLS = (least_table, loss_table, beats_all)


def some_leagues(seed, count, longest, greatest=5):
    """Leagues of 1 to 12 hands, always the same ones for the same seed."""
    source = random.Random(seed)
    found = []
    for _ in range(count):
        n = source.randint(0, longest)
        found.append([[source.randint(0, greatest) for _ in range(n)] for _ in range(source.randint(1, 12))])
    return found


class TablesTest(plain.Case, unittest.TestCase):

    def test_all_pairings_of_each_two_hands(self):
        for hands in some_leagues(151, 30, 4):
            n = len(hands[0])
            results = [[plain.all_results(x, y) for y in hands] for x in hands]
            self.assertEqual(least_table(hands), [[min(found) for found in line] for line in results])
            self.assertEqual(loss_table(hands), [[n - max(found) for found in line] for line in results])
            self.assertEqual(beats_all(hands), [k for k, line in enumerate(results) if all(max(x) == n for x in line)])

    def test_longer_hands(self):
        for hands in some_leagues(152, 4, 40, 30) + [[[7] * 40] * 12, [[plain.LOW] * 40, [plain.HIGH] * 40]]:
            n = len(hands[0])
            self.assertEqual(least_table(hands), [[least(x, y) for y in hands] for x in hands])
            self.assertEqual(loss_table(hands), [[n - most(x, y) for y in hands] for x in hands])

    def test_three_hands(self):
        for hands in some_leagues(153, 40, 6, 8):
            for table in (least_table(hands), loss_table(hands)):
                for x, y, z in itertools.product(range(len(hands)), repeat=3):
                    self.assertLessEqual(table[x][z], table[x][y] + table[y][z])

    def test_a_hand_against_itself(self):
        for hands in some_leagues(154, 60, 8, 4):
            least_numbers, losses = least_table(hands), loss_table(hands)
            for k, hand in enumerate(hands):
                self.assertEqual(losses[k][k], 0)
                self.assertEqual(least_numbers[k][k], max((hand.count(x) for x in hand), default=0))
                self.assertEqual(commonest(hand), least_numbers[k][k])

    def test_known_answers(self):
        hands = [[1, 1, 2], [2, 2, 2], [0, 3, 3]]
        self.assertEqual(least_table(hands), [[2, 1, 1], [3, 3, 1], [2, 2, 2]])
        self.assertEqual(loss_table(hands), [[0, 2, 2], [0, 0, 2], [1, 1, 0]])
        self.assertEqual(beats_all(hands), [])
        self.assertEqual(beats_all(hands[:2]), [1])
        self.assertEqual(beats_all([[3, 3], [1, 2], [3, 3], [3, 2]]), [0, 2])
        self.assertEqual((least_table([[]]), loss_table([[], []]), beats_all([[], []])), ([[0]], [[0, 0], [0, 0]], [0, 1]))
        self.assertEqual((least_table([[5]]), loss_table([[5]]), beats_all([[5]])), ([[1]], [[0]], [0]))

    def test_commonest(self):
        self.assertEqual([commonest(hand) for hand in ([], [4], [4, 4], [1, 2, 3], [1, 2, 1, 2, 1], [-3, 3, -3])],
                         [0, 1, 2, 1, 3, 2])
        self.assertEqual([commonest([plain.LOW] * 39 + [plain.HIGH]), commonest(list(range(40)))], [39, 1])

    def test_hands_of_different_lengths(self):
        for call in CALLS:
            self.raises(BadHands, {"mine_count": 1, "theirs_count": 2}, call, [[1], [2], [1, 2], [], [1, 2, 3]])
            self.raises(BadHands, {"mine_count": 0, "theirs_count": 1}, call, [[], [1]])
            self.raises(BadHands, {"mine_count": 2, "theirs_count": 0}, call, [[1, 2], []])


class JoinedTest(plain.Case, unittest.TestCase):

    def test_the_partner_of_the_partner(self):
        for n in range(5):
            for first, second in itertools.product(plain.all_pairings(n), repeat=2):
                found = joined_pairing(first, second)
                for m in range(n):
                    self.assertEqual(found[m], second[first[m]])
                self.assertEqual(sorted(found), list(range(n)))
        first, second = plain.shuffled(155, 40), plain.shuffled(156, 40)
        self.assertEqual(joined_pairing(first, second), [second[m] for m in first])

    def test_results_of_joined_pairings(self):
        for hands in some_leagues(157, 60, 7):
            n, (x, y, z) = len(hands[0]), (hands * 3)[:3]
            first, second = plain.shuffled(n, n), plain.shuffled(n + 50, n)
            whole = result(x, z, joined_pairing(first, second))
            parts = [result(x, y, first), result(y, z, second)]
            self.assertLessEqual(whole, sum(parts))
            self.assertLessEqual(n - whole, 2 * n - sum(parts))

    def test_known_answers(self):
        self.assertEqual(joined_pairing([], []), [])
        self.assertEqual(joined_pairing([1, 2, 0], [0, 2, 1]), [2, 1, 0])

    def test_wrong_pairings(self):
        for first, index in (([0, 0], 1), ([2, 0], 0), ([-1, 0], 0), ([0, 1, 3], 2)):
            self.raises(BadPairing, {"index": index}, joined_pairing, first, [5])
        for second, index in (([0, 0, 1], 1), ([0, 1], 2), ([], 0), ([0, 1, 2, 3], 3), ([3, 1, 2], 0), ([0, 1, -1], 2)):
            self.raises(BadPairing, {"index": index}, joined_pairing, [2, 1, 0], second)
        self.raises(BadPairing, {"index": 0}, joined_pairing, [], [0])


class ListsTest(unittest.TestCase):

    def test_arguments_and_what_is_returned(self):
        hands = [[1, 2], [2, 1]]
        for call in CALLS:
            first = call(hands)
            kept = str(first)
            for part in first:
                if isinstance(part, list):
                    part.append(9)
            first.append(7)
            self.assertEqual((str(call(hands)), hands), (kept, [[1, 2], [2, 1]]))
        first, second = [0, 1], [0, 1]
        joined_pairing(first, second).append(5)
        self.assertEqual((first, second), ([0, 1], [0, 1]))


if __name__ == "__main__":
    unittest.main()
