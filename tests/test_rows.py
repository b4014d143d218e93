"""climbrow.rows: points 24, 25, 26, 27 and the interface."""

import itertools
import unittest

import plain
from climbrow.errors import BadHands, BadWord
from climbrow.levels import row_after, row_of
from climbrow.rows import all_values, blocks, is_row, span_of_row, struck, value, value_of
from climbrow.spans import Span

LISTS = plain.sample_lists()


def plain_struck(row, word, many):
    found = list(row)
    for letter in word:
        if {"M": "mine", "T": "theirs"}[letter] == many:
            del found[0]
        else:
            del found[-1]
            for k in range(len(found)):
                found[k] += 1
    return found


class IsRowTest(plain.Case, unittest.TestCase):

    def test_against_the_rows_of_all_hands(self):
        for n in range(5):
            rows = {tuple(plain.plain_row(mine, theirs)) for mine, theirs in plain.all_orders(n)}
            for levels in itertools.product(range(-n - 1, n + 2), repeat=n):
                self.assertIs(is_row(list(levels)), levels in rows, levels)

    def test_edges(self):
        self.assertIs(is_row([]), True)
        self.assertEqual([k for k in range(-9, 9) if is_row([k])], [-1, 0])
        self.assertIs(is_row([-3, -2]), False)
        self.assertIs(is_row([1, 2]), False)
        self.assertIs(is_row([0, 2]), False)
        self.assertIs(is_row([0, -1]), False)
        self.assertIs(is_row([-1, 0, 0, 1, 2, 2]), True)
        self.assertIs(is_row(list(range(40))), True)
        self.assertIs(is_row(list(range(-40, 0))), True)
        self.assertIs(is_row([plain.LOW]), False)

    def test_lists_that_were_struck_or_counted_in(self):
        self.assertIs(is_row(struck([0, 0, 1], "T")), False)
        self.assertIs(is_row(struck([0, 0, 1], "M")), True)
        self.assertIs(is_row(row_after([1, 1, 2], [1, 1, 2], 1, 0)), False)


class BlocksAndSpanTest(plain.Case, unittest.TestCase):

    def test_blocks(self):
        for row in LISTS:
            self.assertEqual(blocks(row), [len(list(group)) for _, group in itertools.groupby(row)])

    def test_known_blocks(self):
        self.assertEqual(blocks([]), [])
        self.assertEqual(blocks([-1]), [1])
        self.assertEqual(blocks([-1, -1, 0, 1, 1, 1]), [2, 1, 3])
        self.assertEqual(blocks([0] * 40), [40])
        self.assertEqual(blocks([3, 3, 4]), [2, 1])

    def test_span_of_the_row_is_the_span_of_the_hands(self):
        for n in range(5):
            for mine, theirs in plain.all_orders(n):
                span = span_of_row(row_of(mine, theirs))
                results = plain.all_results(mine, theirs)
                self.assertIsInstance(span, Span)
                self.assertEqual((span.least, span.most), (min(results), max(results)))

    def test_spans_of_lists_as_they_stand(self):
        for row in LISTS:
            span = span_of_row(row)
            self.assertEqual((span.least, span.most), (row[-1] + 1, len(row) + row[0]) if row else (0, 0))
        self.assertEqual((span_of_row([3, 4]).least, span_of_row([3, 4]).most), (5, 5))


class StruckTest(plain.Case, unittest.TestCase):

    def test_strikes_one_after_the_other(self):
        for row in LISTS:
            for length in range(len(row) + 1):
                for word in plain.all_words(length):
                    self.assertEqual(struck(row, word), plain_struck(row, word, "mine"))
                    self.assertEqual(struck(row, word, many="mine"), plain_struck(row, word, "mine"))
                    self.assertEqual(struck(row, word, many="theirs"), plain_struck(row, word, "theirs"))

    def test_known_answers(self):
        self.assertEqual(struck([-1, 0, 0, 1], "M"), [0, 0, 1])
        self.assertEqual(struck([-1, 0, 0, 1], "T"), [0, 1, 1])
        self.assertEqual(struck([-1, 0, 0, 1], "M", many="theirs"), [0, 1, 1])
        self.assertEqual(struck([-1, 0, 0, 1], "T", many="theirs"), [0, 0, 1])
        self.assertEqual(struck([-1, 0, 0, 1], "MTTM"), [])
        self.assertEqual((struck([], ""), struck([4], ""), struck([4], "T")), ([], [4], []))
        self.assertEqual(struck(list(range(40)), "T" * 39), [39])
        self.assertEqual(struck(list(range(40)), "M" * 39), [39])

    def test_wrong_words(self):
        for many in ("mine", "theirs"):
            self.raises(BadWord, {"position": 0}, struck, [0, 1], "xM", many=many)
            self.raises(BadWord, {"position": 1}, struck, [0, 1], "Mm", many=many)
            self.raises(BadWord, {"position": 2}, struck, [0, 1], "MTM", many=many)
            self.raises(BadWord, {"position": 2}, struck, [0, 1], "MTMMM", many=many)
            self.raises(BadWord, {"position": 4}, struck, [0, 1], "MTMM T", many=many)
            self.raises(BadWord, {"position": 0}, struck, [], "T", many=many)
            self.raises(BadWord, {"position": 1}, struck, [], "Tt", many=many)


class ValueTest(plain.Case, unittest.TestCase):

    def test_value_is_the_entry_that_is_left_plus_1(self):
        for row in LISTS:
            for word in plain.all_words(len(row)):
                for many in ("mine", "theirs"):
                    expected = plain_struck(row, word[:-1], many)[0] + 1 if row else 0
                    self.assertEqual(value(row, word, many=many), expected)
                self.assertEqual(value(row, word), value(row, word, many="mine"))

    def test_value_by_the_numbers_of_lays(self):
        for row in LISTS:
            for word in plain.all_words(len(row)) if row else []:
                lays = {"mine": word[:-1].count("M"), "theirs": word[:-1].count("T")}
                self.assertEqual(value(row, word), lays["theirs"] + 1 + row[lays["mine"]])
                self.assertEqual(value(row, word, many="theirs"), lays["mine"] + 1 + row[lays["theirs"]])

    def test_against_all_plays_of_both_sides(self):
        hands = (plain.small_hands(0) + plain.small_hands(1) + plain.small_hands(2) + plain.small_hands(3, 2)
                 + plain.all_orders(3) + plain.all_orders(4) + plain.all_orders(5)[::60])
        for mine, theirs in hands:
            for word in plain.all_words(len(mine)):
                for many in ("mine", "theirs"):
                    best = plain.played(mine, theirs, word, many)
                    self.assertEqual(value_of(mine, theirs, word, many=many), best, (mine, theirs, word, many))
                    self.assertEqual(value(row_of(mine, theirs), word, many=many), best)
                self.assertEqual(value_of(mine, theirs, word), value_of(mine, theirs, word, many="mine"))

    def test_known_answers(self):
        self.assertEqual((value([], ""), value([], "", many="theirs")), (0, 0))
        self.assertEqual((value([-1], "M"), value([0], "T"), value([5], "M")), (0, 1, 6))
        self.assertEqual([value([-1, 0], word) for word in ("MM", "MT", "TM", "TT")], [1, 1, 1, 1])
        self.assertEqual([value([0, 0], word) for word in ("MM", "MT", "TM", "TT")], [1, 1, 2, 2])
        self.assertEqual([value([0, 0], word, many="theirs") for word in ("MM", "MT", "TM", "TT")], [2, 2, 1, 1])
        self.assertEqual(value([0] * 40, "T" * 39 + "M"), 40)
        self.assertEqual(value([0] * 40, "M" * 39 + "T"), 1)
        self.assertEqual(value_of([7] * 40, [7] * 40, "MT" * 20), 40)
        self.assertEqual(value_of([], [], ""), 0)

    def test_wrong_words(self):
        for many in ("mine", "theirs"):
            for call, row in ((value, ([0, 0, 1],)), (value_of, ([1, 1, 2], [1, 1, 2]))):
                self.raises(BadWord, {"position": 2}, call, *row, "MT", many=many)
                self.raises(BadWord, {"position": 0}, call, *row, "", many=many)
                self.raises(BadWord, {"position": 3}, call, *row, "MTMT", many=many)
                self.raises(BadWord, {"position": 3}, call, *row, "MTMTMT", many=many)
                self.raises(BadWord, {"position": 1}, call, *row, "M-T", many=many)
                self.raises(BadWord, {"position": 2}, call, *row, "MTt", many=many)
                self.raises(BadWord, {"position": 1}, call, *row, "Mx", many=many)
                self.raises(BadWord, {"position": 4}, call, *row, "MTMTX", many=many)
            self.raises(BadWord, {"position": 0}, value, [], "M", many=many)
            self.raises(BadWord, {"position": 0}, value, [2], "", many=many)
            self.raises(BadWord, {"position": 0}, value_of, [], [], "M", many=many)

    def test_different_lengths_go_before_the_word(self):
        self.raises(BadHands, {"mine_count": 1, "theirs_count": 2}, value_of, [1], [1, 2], "x")
        self.raises(BadHands, {"mine_count": 0, "theirs_count": 2}, value_of, [], [1, 2], "")


class AllValuesTest(plain.Case, unittest.TestCase):

    def test_values_by_the_number_of_lays(self):
        for row in LISTS:
            n = len(row)
            expected = [plain_struck(row, "T" * x + "M" * (n - 1 - x), "mine")[0] + 1 for x in range(n)] or [0]
            self.assertEqual(all_values(row), expected)
            mirrored = [value(row, "M" * x + "T" * (n - x), many="theirs") for x in range(n)] or [0]
            self.assertEqual(all_values(row), mirrored)

    def test_from_the_least_to_the_most(self):
        for row in LISTS:
            values = all_values(row)
            self.assertEqual((values[0], values[-1]), (span_of_row(row).least, span_of_row(row).most))
            self.assertTrue(all(later - earlier in (0, 1) for earlier, later in zip(values, values[1:])))

    def test_known_answers(self):
        self.assertEqual((all_values([]), all_values([-1]), all_values([6])), ([0], [0], [7]))
        self.assertEqual(all_values([-1, -1, 0]), [1, 1, 2])
        self.assertEqual(all_values([0] * 40), list(range(1, 41)))


if __name__ == "__main__":
    unittest.main()
