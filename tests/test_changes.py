"""climbrow.changes: points 63 to 65 and the interface."""

import itertools
import random
import unittest

import plain
from climbrow.changes import cheapest_raise, late_pair, lift_lowest, lifts_needed, with_number
from climbrow.errors import BadCard, BadHands, BadPlace, BadWord, Unreachable
from climbrow.rows import value_of
from climbrow.spans import least, most, rise_and_fall

HANDS = plain.small_hands(1) + plain.small_hands(2) + plain.all_orders(3) + plain.some_hands(121, 30, 4)


def best(mine, theirs, word):
    return plain.played(mine, theirs, word, "mine")


def lifted(mine, theirs, cards):
    top = max(mine + theirs)
    return [top if m in cards else number for m, number in enumerate(mine)]


def lowest_cards(mine, theirs, count):
    return [m for side, m in plain.plain_deck(mine, theirs) if side == "mine"][:count]


class WithNumberTest(plain.Case, unittest.TestCase):

    def test_one_number_is_another(self):
        self.assertEqual([with_number([3, 1, 2], k, 9) for k in range(3)], [[9, 1, 2], [3, 9, 2], [3, 1, 9]])
        self.assertEqual(with_number([3], 0, plain.LOW), [plain.LOW])
        self.assertEqual(with_number([3, 3], 1, 3), [3, 3])

    def test_the_hand_stays_as_it_was(self):
        hand = [1, 2]
        found = with_number(hand, 0, 1)
        found.append(7)
        self.assertEqual(hand, [1, 2])

    def test_wrong_cards(self):
        for hand in ([], [1, 2]):
            for index in (-1, len(hand), -2, 50):
                self.raises(BadCard, {"side": "mine", "index": index}, with_number, hand, index, 1)

    def test_a_raise_adds_0_or_1_to_all(self):
        for mine, theirs in HANDS:
            for index in range(len(mine)):
                for number in range(mine[index] + 1, 8, 2):
                    more = with_number(mine, index, number)
                    self.assertIn(least(more, theirs) - least(mine, theirs), (0, 1))
                    self.assertIn(most(more, theirs) - most(mine, theirs), (0, 1))
                    for word in plain.all_words(len(mine)):
                        self.assertIn(value_of(more, theirs, word) - value_of(mine, theirs, word), (0, 1))


class CheapestRaiseTest(plain.Case, unittest.TestCase):

    def test_the_smallest_number_of_all(self):
        found = set()
        for mine, theirs in HANDS:
            for word in plain.all_words(len(mine)):
                before = best(mine, theirs, word)
                for index in range(len(mine)):
                    numbers = range(mine[index] + 1, max(mine + theirs) + 3)
                    helping = [x for x in numbers if best(with_number(mine, index, x), theirs, word) == before + 1]
                    expected = helping[0] if helping else None
                    self.assertEqual(cheapest_raise(mine, theirs, word, index), expected, (mine, theirs, word, index))
                    found.add(expected)
        self.assertLessEqual({None, 1, 2, 3, 4}, found)

    def test_known_answers(self):
        self.assertEqual(cheapest_raise([1], [plain.HIGH], "M", 0), plain.HIGH)
        self.assertEqual(cheapest_raise([plain.LOW], [-7], "T", 0), -7)
        self.assertIsNone(cheapest_raise([5], [5], "M", 0))
        self.assertIsNone(cheapest_raise([1, 1, 2], [1, 1, 2], "TTM", 0))
        self.assertIsNone(cheapest_raise([1, 1, 2], [1, 1, 2], "MMT", 0))
        # The value counts under the word, and mine wishes for many.
        self.assertEqual([cheapest_raise([1, 2, 3], [2, 3, 4], word, 0) for word in ("MMM", "TTT")], [2, 4])
        self.assertEqual(cheapest_raise([0] * 40, [9] * 40, "MT" * 20, 39), 9)

    def test_wrong_calls(self):
        self.raises(BadHands, {"mine_count": 1, "theirs_count": 2}, cheapest_raise, [1], [1, 2], "x", 9)
        self.raises(BadWord, {"position": 0}, cheapest_raise, [1, 2], [1, 2], "xM", 9)
        self.raises(BadWord, {"position": 1}, cheapest_raise, [1, 2], [1, 2], "M", 9)
        self.raises(BadWord, {"position": 2}, cheapest_raise, [1, 2], [1, 2], "MMM", 9)
        for index in (-1, 2):
            self.raises(BadCard, {"side": "mine", "index": index}, cheapest_raise, [1, 2], [1, 2], "MM", index)
        self.raises(BadCard, {"side": "mine", "index": 0}, cheapest_raise, [], [], "", 0)


class LiftTest(plain.Case, unittest.TestCase):

    def test_the_lowest_cards_get_the_top_number(self):
        for mine, theirs in HANDS + plain.some_hands(122, 10, 40, -9, 9):
            for count in range(len(mine) + 1):
                expected = lifted(mine, theirs, lowest_cards(mine, theirs, count)) if mine else []
                self.assertEqual(lift_lowest(mine, theirs, count), expected)

    def test_equal_numbers_and_the_limits(self):
        self.assertEqual([lift_lowest([2, 1, 1], [5, 0, 0], k) for k in range(4)],
                         [[2, 1, 1], [2, 5, 1], [2, 5, 5], [5, 5, 5]])
        self.assertEqual(lift_lowest([2, 9, 1], [5, 0, 0], 2), [9, 9, 9])
        self.assertEqual(lift_lowest([plain.LOW], [plain.HIGH], 1), [plain.HIGH])
        self.assertEqual(lift_lowest([-5, -7], [-9, -8], 1), [-5, -5])
        self.assertEqual(lift_lowest([], [], 0), [])
        mine = [3, 1]
        lift_lowest(mine, [1, 1], 0).append(4)
        self.assertEqual(mine, [3, 1])

    def test_at_least_as_good_as_lifting_any_other_cards(self):
        better = 0
        for mine, theirs in plain.small_hands(2) + plain.all_orders(3) + plain.some_hands(123, 15, 4):
            for count in range(len(mine) + 1):
                found = lift_lowest(mine, theirs, count)
                for cards in itertools.combinations(range(len(mine)), count):
                    other = lifted(mine, theirs, cards) if mine else []
                    self.assertGreaterEqual(least(found, theirs), least(other, theirs))
                    self.assertGreaterEqual(most(found, theirs), most(other, theirs))
                    for word in plain.all_words(len(mine)):
                        self.assertGreaterEqual(value_of(found, theirs, word), value_of(other, theirs, word))
                        better += value_of(found, theirs, word) > value_of(other, theirs, word)
        self.assertGreater(better, 100)

    def test_wrong_numbers_of_cards(self):
        self.raises(BadHands, {"mine_count": 1, "theirs_count": 2}, lift_lowest, [1], [1, 2], 9)
        for count in (-1, 3, 50):
            self.raises(BadPlace, {"place": count}, lift_lowest, [1, 2], [1, 2], count)
        self.raises(BadPlace, {"place": 1}, lift_lowest, [], [], 1)


class LiftsNeededTest(plain.Case, unittest.TestCase):

    def test_the_smallest_number_of_lifts(self):
        found = set()
        for mine, theirs in HANDS:
            n = len(mine)
            for word in plain.all_words(n)[::2]:
                values = [best(lifted(mine, theirs, lowest_cards(mine, theirs, count)) if mine else [], theirs, word)
                          for count in range(n + 1)]
                self.assertEqual(values[n], n)
                for wanted in range(-1, n + 1):
                    expected = [count for count in range(n + 1) if values[count] >= wanted][0]
                    self.assertEqual(lifts_needed(mine, theirs, word, wanted), expected)
                    found.add(expected)
                for wanted in (n + 1, n + 9):
                    self.raises(Unreachable, {"wanted": wanted, "lowest": 0, "highest": n},
                                lifts_needed, mine, theirs, word, wanted)
        self.assertLessEqual({0, 1, 2, 3, 4}, found)

    def test_known_answers(self):
        self.assertEqual([lifts_needed([1, 1, 2], [1, 1, 2], "MMT", wanted) for wanted in (2, 3)], [0, 2])
        self.assertEqual([lifts_needed([0] * 40, [1] * 40, "MT" * 20, wanted) for wanted in (-3, 0, 1, 39, 40)],
                         [0, 0, 1, 39, 40])
        self.assertEqual(lifts_needed([], [], "", 0), 0)
        self.raises(Unreachable, {"wanted": 41, "lowest": 0, "highest": 40}, lifts_needed, [1] * 40, [1] * 40, "M" * 40, 41)

    def test_wrong_calls(self):
        self.raises(BadHands, {"mine_count": 1, "theirs_count": 2}, lifts_needed, [1], [1, 2], "x", 9)
        self.raises(BadWord, {"position": 0}, lifts_needed, [1, 2], [1, 2], "xM", 9)
        self.raises(BadWord, {"position": 1}, lifts_needed, [1, 2], [1, 2], "M", 0)
        self.raises(BadWord, {"position": 2}, lifts_needed, [1, 2], [1, 2], "MMM", 9)
        self.raises(BadWord, {"position": 0}, lifts_needed, [], [], "M", 9)


class LatePairTest(plain.Case, unittest.TestCase):

    def test_the_new_hands_and_the_changes(self):
        changes = {True: set(), False: set()}
        for mine, theirs in HANDS + [([], [])]:
            results = plain.all_results(mine, theirs)
            for my_number, their_number in itertools.product(range(-1, 7, 2), range(0, 7, 2)):
                new = mine + [my_number], theirs + [their_number]
                new_results = plain.all_results(*new)
                found = late_pair(mine, theirs, my_number, their_number)
                self.assertEqual(found, (*new, min(new_results) - min(results), max(new_results) - max(results)))
                won = my_number >= their_number
                changes[won].add(found[2:])
                rise, fall = rise_and_fall(*new, len(mine), len(mine))
                self.assertEqual(found[2:], (won - rise, won + fall))
        self.assertEqual(changes, {True: {(0, 1), (0, 2), (1, 1), (1, 2)}, False: {(0, 0), (0, 1), (-1, 0), (-1, 1)}})

    def test_longer_hands(self):
        source = random.Random(124)
        for mine, theirs in plain.some_hands(125, 20, 40, 0, 30):
            numbers = source.randint(-1, 31), source.randint(-1, 31)
            new_mine, new_theirs, lower, upper = late_pair(mine, theirs, *numbers)
            self.assertEqual((new_mine, new_theirs), (mine + [numbers[0]], theirs + [numbers[1]]))
            self.assertEqual(lower, least(new_mine, new_theirs) - least(mine, theirs))
            self.assertEqual(upper, most(new_mine, new_theirs) - most(mine, theirs))

    def test_known_answers(self):
        self.assertEqual(late_pair([], [], 3, 3), ([3], [3], 1, 1))
        self.assertEqual(late_pair([], [], 2, 3), ([2], [3], 0, 0))
        self.assertEqual(late_pair([1], [2], plain.HIGH, plain.LOW), ([1, plain.HIGH], [2, plain.LOW], 1, 2))
        self.assertEqual(late_pair([2], [1], plain.LOW, plain.HIGH), ([2, plain.LOW], [1, plain.HIGH], -1, 0))

    def test_wrong_hands_and_new_lists(self):
        self.raises(BadHands, {"mine_count": 1, "theirs_count": 2}, late_pair, [1], [1, 2], 3, 4)
        mine, theirs = [1], [2]
        found = late_pair(mine, theirs, 3, 4)
        found[0].clear()
        found[1].append(9)
        self.assertEqual((mine, theirs), ([1], [2]))


if __name__ == "__main__":
    unittest.main()
