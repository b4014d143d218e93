"""climbrow.turns: points 28, 29 and the interface."""

import unittest

import plain
from climbrow.errors import BadPlace, BadWord, Unreachable, Unsteady
from climbrow.levels import row_of
from climbrow.rows import value
from climbrow.turns import can_force, exact_range, is_steady, last_lay_worth, turn_worth, turns_needed

LISTS = plain.sample_lists()


def plain_value(row, word, many):
    """Point 26, by the numbers of lays."""
    lays = {"mine": word[:-1].count("M"), "theirs": word[:-1].count("T")}
    few = "theirs" if many == "mine" else "mine"
    return lays[few] + 1 + row[lays[many]] if row else 0


def bad_ends(word):
    """The indexes at which an end part of the word without its last letter has more letters M than T."""
    whole = word[:-1]
    return [k for k in range(len(whole)) if whole[k:].count("M") > whole[k:].count("T")]


class TurnWorthTest(plain.Case, unittest.TestCase):

    def test_the_value_with_t_minus_the_value_with_m(self):
        for row in LISTS:
            for word in plain.all_words(len(row)):
                for many in ("mine", "theirs"):
                    for index in range(len(word)):
                        with_t = word[:index] + "T" + word[index + 1:]
                        with_m = word[:index] + "M" + word[index + 1:]
                        expected = plain_value(row, with_t, many) - plain_value(row, with_m, many)
                        self.assertEqual(turn_worth(row, word, index, many=many), expected)
                        self.assertIn(expected, (0, 1) if many == "mine" else (0, -1))
                        if index == len(word) - 1:
                            self.assertEqual(expected, 0)

    def test_known_answers(self):
        self.assertEqual([turn_worth([0, 0, 1], "TTM", k) for k in range(3)], [1, 1, 0])
        self.assertEqual([turn_worth([0, 0, 1], "MMM", k) for k in range(3)], [0, 0, 0])
        self.assertEqual([turn_worth([0, 0, 1], "MMM", k, many="theirs") for k in range(3)], [-1, -1, 0])
        self.assertEqual(turn_worth([0], "M", 0), 0)
        self.assertEqual([turn_worth([0, 0], word, 0) for word in ("MM", "TM")], [1, 1])
        self.assertEqual([turn_worth([0, 0], word, 0, many="mine") for word in ("MM", "TM")], [1, 1])
        self.assertEqual([turn_worth([0, 0], word, 0, many="theirs") for word in ("MM", "TM")], [-1, -1])
        self.assertEqual(turn_worth([0] * 40, "M" * 40, 38), 1)

    def test_errors_in_their_order(self):
        self.raises(BadWord, {"position": 2}, turn_worth, [0, 0, 1], "MT", 7)
        self.raises(BadWord, {"position": 3}, turn_worth, [0, 0, 1], "MTMT", -1)
        self.raises(BadWord, {"position": 1}, turn_worth, [0, 0, 1], "M.T", 1)
        self.raises(BadWord, {"position": 4}, turn_worth, [0, 0, 1], "MTTM.", 1)
        self.raises(BadPlace, {"place": 3}, turn_worth, [0, 0, 1], "MTM", 3)
        self.raises(BadPlace, {"place": -1}, turn_worth, [0, 0, 1], "MTM", -1)
        self.raises(BadPlace, {"place": 0}, turn_worth, [], "", 0)
        self.raises(BadPlace, {"place": -1}, turn_worth, [], "", -1)


class TurnsNeededTest(plain.Case, unittest.TestCase):

    def test_the_smallest_number_of_lays(self):
        for row in LISTS:
            n = len(row)
            values = [plain_value(row, "T" * x + "M" * (n - x), "mine") for x in range(max(n, 1))]
            for wanted in range(values[0] - 3, values[-1] + 1):
                expected = min(x for x, found in enumerate(values) if found >= wanted)
                self.assertEqual(turns_needed(row, wanted), expected)
            for wanted in (values[-1] + 1, values[-1] + 9):
                told = {"wanted": wanted, "lowest": values[0], "highest": values[-1]}
                self.raises(Unreachable, told, turns_needed, row, wanted)

    def test_known_answers(self):
        self.assertEqual([turns_needed([0, 0, 1], k) for k in (-7, 1, 2, 3)], [0, 0, 0, 2])
        self.assertEqual([turns_needed([0] * 40, k) for k in (1, 2, 40)], [0, 1, 39])
        self.assertEqual([turns_needed([], k) for k in (0, -1)], [0, 0])
        self.raises(Unreachable, {"wanted": 1, "lowest": 0, "highest": 0}, turns_needed, [], 1)
        self.raises(Unreachable, {"wanted": 2, "lowest": 1, "highest": 1}, turns_needed, [-1, 0], 2)


class LastLayWorthTest(plain.Case, unittest.TestCase):

    def test_two_words_with_as_many_lays_of_mine(self):
        for row in LISTS:
            n = len(row)
            for lays in range(1, n):
                mine_last = "T" * (n - lays) + "M" * lays
                theirs_last = "M" * lays + "T" * (n - lays)
                expected = plain_value(row, mine_last, "mine") - plain_value(row, theirs_last, "mine")
                self.assertEqual(last_lay_worth(row, lays), expected)
                self.assertIn(expected, (0, 1))

    def test_known_answers(self):
        self.assertEqual([last_lay_worth([0, 0, 1], lays) for lays in (1, 2)], [1, 0])
        self.assertEqual([last_lay_worth([4, 5, 5], lays) for lays in (1, 2)], [0, 1])
        self.assertEqual([last_lay_worth([0] * 40, lays) for lays in (1, 39)], [1, 1])

    def test_wrong_numbers_of_lays(self):
        for row in ([], [0], [0, 1], [0, 0, 1], [0] * 40):
            for lays in (-1, 0, len(row), len(row) + 1):
                self.raises(BadPlace, {"place": lays}, last_lay_worth, row, lays)


class ExactRangeTest(plain.Case, unittest.TestCase):

    def test_the_values_for_both_wishes(self):
        for row in LISTS:
            for word in plain.all_words(len(row)):
                found = exact_range(row, word)
                self.assertIsInstance(found, tuple)
                self.assertEqual(found, (plain_value(row, word, "theirs"), plain_value(row, word, "mine")))
                self.assertEqual(found, (value(row, word, many="theirs"), value(row, word, many="mine")))

    def test_known_answers(self):
        self.assertEqual(exact_range([], ""), (0, 0))
        self.assertEqual(exact_range([0], "M"), (1, 1))
        self.assertEqual(exact_range([0, 0], "MM"), (2, 1))
        self.assertEqual(exact_range([0, 0], "TM"), (1, 2))
        self.assertEqual(exact_range([0] * 40, "T" * 40), (1, 40))

    def test_wrong_words(self):
        self.raises(BadWord, {"position": 1}, exact_range, [0, 0], "T")
        self.raises(BadWord, {"position": 2}, exact_range, [0, 0], "TTT")
        self.raises(BadWord, {"position": 1}, exact_range, [0, 0], "Tx")
        self.raises(BadWord, {"position": 3}, exact_range, [0, 0], "TTTx")


class SteadyTest(plain.Case, unittest.TestCase):

    def test_end_parts(self):
        for n in range(9):
            for word in plain.all_words(n):
                self.assertIs(is_steady(word), not bad_ends(word), word)

    def test_known_answers(self):
        for word in ("", "M", "T", "TM", "TT", "MTM", "TTT", "MTT", "TMTM", "MMTTM", "T" * 40, "MT" * 19 + "TM"):
            self.assertIs(is_steady(word), True, word)
        for word in ("MM", "MT", "TMM", "TMT", "MMTT", "TTTTMT", "MMT", "M" + "MT" * 19 + "T", "T" * 38 + "MM"):
            self.assertIs(is_steady(word), False, word)

    def test_wrong_letters(self):
        self.raises(BadWord, {"position": 0}, is_steady, "x")
        self.raises(BadWord, {"position": 2}, is_steady, "MMt")
        self.raises(BadWord, {"position": 1}, is_steady, "M T?")

    def test_wrong_letters_go_before_everything(self):
        self.raises(BadWord, {"position": 3}, can_force, [0, 0, 1], "MMMx", 2)


class CanForceTest(plain.Case, unittest.TestCase):

    def test_against_all_plays_of_both_sides(self):
        hands = (plain.small_hands(0) + plain.small_hands(1) + plain.small_hands(2) + plain.small_hands(3, 2)
                 + plain.all_orders(3) + plain.all_orders(4) + plain.all_orders(5)[::60])
        for mine, theirs in hands:
            row = row_of(mine, theirs)
            for word in plain.all_words(len(mine)):
                if bad_ends(word):
                    continue
                low, high = exact_range(row, word)
                self.assertLessEqual(low, high)
                results = plain.forced(mine, theirs, word)
                self.assertEqual(results, list(range(low, high + 1)))
                found = [k for k in range(-1, len(mine) + 2) if can_force(row, word, k)]
                self.assertEqual(found, results, (mine, theirs, word))

    def test_lists_as_they_stand(self):
        for row in LISTS:
            for word in plain.all_words(len(row)):
                for wanted in range(-6, 12):
                    if bad_ends(word):
                        told = {"position": max(bad_ends(word))}
                        self.raises(Unsteady, told, can_force, row, word, wanted)
                    else:
                        low, high = plain_value(row, word, "theirs"), plain_value(row, word, "mine")
                        self.assertIs(can_force(row, word, wanted), low <= wanted <= high)

    def test_known_answers(self):
        self.assertEqual([k for k in range(-3, 6) if can_force([0, 0, 1], "TTM", k)], [2, 3])
        self.assertEqual([k for k in range(-3, 6) if can_force([], "", k)], [0])
        self.assertEqual([k for k in range(-3, 6) if can_force([-1], "T", k)], [0])

    def test_words_that_are_not_steady(self):
        self.raises(Unsteady, {"position": 0}, can_force, [0, 0], "MT", 1)
        self.raises(Unsteady, {"position": 1}, can_force, [0, 0, 1], "MMT", 2)
        self.raises(Unsteady, {"position": 1}, can_force, [0, 0, 1], "TMT", 99)
        self.raises(Unsteady, {"position": 0}, can_force, [0, 0, 1, 1], "MMTT", 2)
        self.raises(Unsteady, {"position": 1}, can_force, [0, 0, 1, 1, 1], "MMMTT", 2)

    def test_wrong_words_go_first(self):
        self.raises(BadWord, {"position": 2}, can_force, [0, 0, 1], "MM", 2)
        self.raises(BadWord, {"position": 3}, can_force, [0, 0, 1], "MMMM", 2)
        self.raises(BadWord, {"position": 2}, can_force, [0, 0, 1], "MMx", 2)


if __name__ == "__main__":
    unittest.main()
