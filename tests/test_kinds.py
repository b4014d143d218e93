"""climbrow.kinds: points 30, 31 and the interface."""

import itertools
import unittest

import plain
from climbrow.cards import deck
from climbrow.errors import BadHands, BadPlace, BadWord
from climbrow.kinds import (alike, count_kinds, count_orders, kind_at, kind_index, kinds, order_of, plain_hands,
                            plainest)
from climbrow.levels import row_of
from climbrow.rows import is_row, value_of

NO_ROWS = ([1], [-2], [0, 2], [1, 0], [0, -1], [-3, -2], [1, 1], [0, 1, 3], [-3, -2, -2])


def values(mine, theirs):
    """The values of the hands under all words, by playing out all plays."""
    return [plain.played(mine, theirs, word, many) for word in plain.all_words(len(mine))
            for many in ("mine", "theirs")]


def rows_that_occur(n):
    """The rows of all orders of n cards of each side, with the number of orders of each."""
    found = {}
    for mine, theirs in plain.all_orders(n):
        row = tuple(plain.plain_row(mine, theirs))
        found[row] = found.get(row, 0) + 1
    return found


class AlikeTest(plain.Case, unittest.TestCase):

    def test_exactly_the_hands_whose_values_agree_under_every_word(self):
        for n in (1, 2, 3):
            hands = [(mine, theirs, values(mine, theirs)) for mine, theirs in plain.all_orders(n)]
            for mine, theirs, told in hands:
                for other_mine, other_theirs, other_told in hands:
                    self.assertIs(alike(mine, theirs, other_mine, other_theirs), told == other_told)

    def test_hands_of_one_kind_have_one_value_and_others_differ(self):
        for n in (3, 4):
            told = {}
            for mine, theirs in plain.all_orders(n):
                found = tuple(value_of(mine, theirs, word) for word in plain.all_words(n))
                told.setdefault(tuple(plain.plain_row(mine, theirs)), set()).add(found)
            self.assertEqual({len(found) for found in told.values()}, {1})
            self.assertEqual(len({min(found) for found in told.values()}), len(told))

    def test_hands_of_different_numbers_of_cards_are_not_alike(self):
        self.assertIs(alike([], [], [1], [1]), False)
        self.assertIs(alike([1, 1], [1, 1], [1], [1]), False)
        self.assertIs(alike([1], [2], [1, 1], [2, 2]), False)
        self.assertIs(alike([], [], [], []), True)
        self.assertIs(alike([0] * 40, [0] * 40, [0] * 39, [0] * 39), False)

    def test_known_answers(self):
        self.assertIs(alike([1, 1, 2], [1, 1, 2], [3, 5, 6], [1, 2, 4]), False)
        self.assertIs(alike([1, 1, 2], [1, 1, 2], [3, 4, 6], [1, 2, 5]), True)
        self.assertIs(alike([5], [5], [9], [-9]), True)
        self.assertIs(alike([5], [5], [4], [5]), False)

    def test_errors_in_their_order(self):
        self.raises(BadHands, {"mine_count": 1, "theirs_count": 2}, alike, [1], [1, 2], [1, 2, 3], [1])
        self.raises(BadHands, {"mine_count": 3, "theirs_count": 1}, alike, [1], [1], [1, 2, 3], [1])
        self.raises(BadHands, {"mine_count": 0, "theirs_count": 1}, alike, [], [1], [], [1])


class KindsTest(plain.Case, unittest.TestCase):

    def test_against_all_orders(self):
        for n in range(6):
            expected = sorted(list(row) for row in rows_that_occur(n))
            self.assertEqual(kinds(n), expected)
            self.assertEqual(count_kinds(n), len(expected))
            for index, row in enumerate(expected):
                self.assertEqual(kind_at(n, index), row)
                self.assertEqual(kind_index(row), index)

    def test_all_rows_up_to_9_entries(self):
        for n in range(10):
            found = kinds(n)
            self.assertEqual(found, sorted(plain.all_rows(n)))
            self.assertEqual(count_kinds(n), len(found))
            self.assertEqual(len(found), 1 if n == 0 else (n + 3) * 2 ** n // 4)
            for index in range(0, len(found), max(1, len(found) // 97)):
                self.assertEqual(kind_at(n, index), found[index])
                self.assertEqual(kind_index(found[index]), index)
            self.assertEqual([kind_at(n, 0), kind_at(n, len(found) - 1)], [found[0], found[-1]])

    def test_numbers_of_kinds(self):
        self.assertEqual([count_kinds(n) for n in range(10)], [1, 2, 5, 12, 28, 64, 144, 320, 704, 1536])
        self.assertEqual(count_kinds(40), 43 * 2 ** 40 // 4)

    def test_no_row_has_less_than_no_entries(self):
        self.assertEqual([count_kinds(-1), kinds(-1)], [0, []])
        self.raises(BadPlace, {"place": 0}, kind_at, -1, 0)

    def test_known_lists(self):
        self.assertEqual(kinds(0), [[]])
        self.assertEqual(kinds(1), [[-1], [0]])
        self.assertEqual(kinds(2), [[-2, -1], [-1, -1], [-1, 0], [0, 0], [0, 1]])
        self.assertEqual(kinds(9)[0], [-9, -8, -7, -6, -5, -4, -3, -2, -1])
        self.assertEqual(kinds(9)[-1], list(range(9)))

    def test_40_entries(self):
        last = count_kinds(40) - 1
        self.assertEqual(kind_at(40, 0), list(range(-40, 0)))
        self.assertEqual(kind_at(40, last), list(range(40)))
        self.assertEqual([kind_index(list(range(-40, 0))), kind_index(list(range(40)))], [0, last])
        before = kind_at(40, 10 ** 9 - 1)
        for index in range(10 ** 9, 10 ** 9 + 60):
            row = kind_at(40, index)
            self.assertTrue(is_row(row) and len(row) == 40)
            self.assertLess(before, row)
            self.assertEqual(kind_index(row), index)
            before = row
        for index in range(0, last, last // 77):
            self.assertEqual(kind_index(kind_at(40, index)), index)

    def test_wrong_indexes(self):
        for n in (0, 1, 2, 9, 40):
            for index in (-1, count_kinds(n), count_kinds(n) + 5, -count_kinds(n)):
                self.raises(BadPlace, {"place": index}, kind_at, n, index)

    def test_lists_that_are_no_rows(self):
        for levels in NO_ROWS:
            self.raises(BadPlace, {"place": len(levels)}, kind_index, levels)


class OrdersTest(plain.Case, unittest.TestCase):

    def test_the_order_of_hands(self):
        for mine, theirs in plain.sample_hands():
            expected = "".join("M" if side == "mine" else "T" for side, _ in plain.plain_deck(mine, theirs))
            self.assertEqual(order_of(mine, theirs), expected)

    def test_known_orders(self):
        self.assertEqual(order_of([], []), "")
        self.assertEqual(order_of([5], [5]), "TM")
        self.assertEqual(order_of([5], [6]), "MT")
        self.assertEqual(order_of([1, 1, 2], [1, 1, 2]), "TTMMTM")

    def test_hands_of_different_lengths(self):
        self.raises(BadHands, {"mine_count": 2, "theirs_count": 1}, order_of, [1, 2], [1])

    def test_plain_hands_of_all_orders(self):
        for n in range(5):
            for mine, theirs in plain.all_orders(n):
                order = order_of(mine, theirs)
                self.assertEqual(plain_hands(order), (mine, theirs))
                self.assertEqual(len(order), 2 * n)

    def test_known_hands(self):
        self.assertEqual(plain_hands(""), ([], []))
        self.assertEqual(plain_hands("MT"), ([1], [2]))
        self.assertEqual(plain_hands("TTMMTM"), ([3, 4, 6], [1, 2, 5]))
        self.assertEqual(plain_hands("M" * 40 + "T" * 40), (list(range(1, 41)), list(range(41, 81))))

    def test_wrong_orders(self):
        self.raises(BadWord, {"position": 0}, plain_hands, "x")
        self.raises(BadWord, {"position": 2}, plain_hands, "MMtT")
        self.raises(BadWord, {"position": 1}, plain_hands, "M T")
        self.raises(BadHands, {"mine_count": 1, "theirs_count": 0}, plain_hands, "M")
        self.raises(BadHands, {"mine_count": 2, "theirs_count": 3}, plain_hands, "MTTMT")
        self.raises(BadWord, {"position": 3}, plain_hands, "MMM-")

    def test_numbers_of_orders(self):
        for n in range(7):
            counted = rows_that_occur(n)
            for row in plain.all_rows(n):
                self.assertEqual(count_orders(row), counted[tuple(row)], row)
        self.assertEqual(count_orders([0, 0, 1]), 2)
        self.assertEqual(count_orders([]), 1)
        self.assertEqual(count_orders([0] * 40), 1)
        self.assertEqual(count_orders([-1] * 20 + [0] * 20), 137846528820)

    def test_no_order_has_a_list_that_is_no_row(self):
        for levels in NO_ROWS:
            self.assertEqual(count_orders(levels), 0, levels)
        for levels in itertools.product(range(-3, 3), repeat=3):
            self.assertEqual(count_orders(list(levels)) > 0, list(levels) in plain.all_rows(3))


class PlainestTest(plain.Case, unittest.TestCase):

    def test_hands_of_every_row(self):
        long_rows = [kind_at(40, index) for index in range(5, 10 ** 12, 10 ** 10)]
        for row in [row for n in range(8) for row in plain.all_rows(n)] + long_rows:
            found = plainest(row)
            self.assertIsInstance(found, tuple)
            mine, theirs = found
            self.assertEqual(plain.plain_row(mine, theirs), row)
            self.assertEqual(row_of(mine, theirs), row)
            self.assertEqual([mine, theirs], [sorted(mine), sorted(theirs)])
            self.assertEqual(sorted(mine + theirs), list(range(1, 2 * len(row) + 1)))
            self.assertEqual(len(mine), len(row))
            self.assertEqual(len(deck(mine, theirs)), 2 * len(row))

    def test_known_answers(self):
        self.assertEqual(plainest([]), ([], []))
        self.assertEqual(plainest([0]), ([2], [1]))
        self.assertEqual(plainest([-1]), ([1], [2]))
        self.assertEqual(plainest(list(range(40))), (list(range(41, 81)), list(range(1, 41))))

    def test_lists_that_are_no_rows(self):
        for levels in NO_ROWS:
            self.raises(BadPlace, {"place": len(levels)}, plainest, levels)


if __name__ == "__main__":
    unittest.main()
