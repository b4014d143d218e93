"""climbrow.spans: points 15, 16, 17 (rise and fall) and the interface."""

import unittest

import plain
from climbrow.errors import BadCard, BadHands, Unreachable
from climbrow.pairings import rotation
from climbrow.spans import Span, least, most, pairing_with, rise_and_fall, span_of

SMALL = (plain.small_hands(0) + plain.small_hands(1) + plain.small_hands(2) + plain.small_hands(3, 2)
         + plain.all_orders(3) + plain.all_orders(4))
HANDS = plain.sample_hands()


class SpanTest(plain.Case, unittest.TestCase):

    def test_attributes_and_width(self):
        span = Span(2, 7)
        self.assertEqual((span.least, span.most, span.width), (2, 7, 5))
        self.assertEqual(Span(least=-3, most=-1).width, 2)
        self.assertEqual(Span(4, 4).width, 0)

    def test_results_in_a_span(self):
        self.assertEqual([k for k in range(-5, 12) if k in Span(2, 5)], [2, 3, 4, 5])
        self.assertEqual([k for k in range(-5, 12) if k not in Span(-1, 9)], [-5, -4, -3, -2, 10, 11])
        self.assertEqual([k for k in range(8) if k in Span(4, 4)], [4])

    def test_sum(self):
        first, second = Span(1, 4), Span(-2, 10)
        found = first + second
        self.assertIsInstance(found, Span)
        self.assertEqual((found.least, found.most, found.width), (-1, 14, 15))
        self.assertEqual((first.least, first.most, second.least, second.most), (1, 4, -2, 10))
        again = second + first + Span(1, 1)
        self.assertEqual((again.least, again.most), (0, 15))

    def test_width_follows_the_attributes(self):
        span = Span(0, 3)
        span.most = 9
        self.assertEqual(span.width, 9)


class LeastAndMostTest(plain.Case, unittest.TestCase):

    def test_against_all_pairings(self):
        for mine, theirs in SMALL:
            results = plain.all_results(mine, theirs)
            self.assertEqual((least(mine, theirs), most(mine, theirs)), (min(results), max(results)))
            span = span_of(mine, theirs)
            self.assertIsInstance(span, Span)
            self.assertEqual((span.least, span.most), (min(results), max(results)))

    def test_long_hands(self):
        for mine, theirs in HANDS:
            walk = plain.plain_heights(mine, theirs)
            expected = (max(walk), len(mine) + min(walk))
            self.assertEqual((least(mine, theirs), most(mine, theirs)), expected)
            self.assertEqual((span_of(mine, theirs).least, span_of(mine, theirs).most), expected)

    def test_known_answers(self):
        self.assertEqual((least([], []), most([], [])), (0, 0))
        self.assertEqual((least([7] * 40, [7] * 40), most([7] * 40, [7] * 40)), (40, 40))
        self.assertEqual((least([1, 4], [2, 3]), most([1, 4], [2, 3])), (1, 1))
        self.assertEqual((least([2, 4], [1, 3]), most([2, 4], [1, 3])), (1, 2))
        self.assertEqual((least([plain.LOW], [plain.HIGH]), most([plain.LOW], [plain.HIGH])), (0, 0))

    def test_hands_of_different_lengths(self):
        for call in (least, most, span_of):
            self.raises(BadHands, {"mine_count": 2, "theirs_count": 0}, call, [1, 2], [])
            self.raises(BadHands, {"mine_count": 2, "theirs_count": 3}, call, [1, 2], [1, 1, 1])


class PairingWithTest(plain.Case, unittest.TestCase):

    def test_each_result_from_the_least_to_the_most(self):
        for mine, theirs in SMALL + HANDS:
            walk = plain.plain_heights(mine, theirs)
            low, high = max(walk), len(mine) + min(walk)
            for wanted in range(low, high + 1):
                found = pairing_with(mine, theirs, wanted)
                self.assertEqual(plain.count_won(mine, theirs, found), wanted)
                self.assertEqual(found, rotation(mine, theirs, wanted))
            told = {"lowest": low, "highest": high}
            for wanted in (low - 1, high + 1, -1, len(mine) + 1, -50, 99):
                self.raises(Unreachable, {"wanted": wanted, **told}, pairing_with, mine, theirs, wanted)

    def test_known_answers(self):
        self.assertEqual(pairing_with([], [], 0), [])
        self.assertEqual(pairing_with([2, 4], [1, 3], 1), [1, 0])
        self.assertEqual(pairing_with([2, 4], [1, 3], 2), [0, 1])

    def test_different_lengths_go_first(self):
        self.raises(BadHands, {"mine_count": 1, "theirs_count": 2}, pairing_with, [1], [1, 2], 99)


def places_up(count, start, end):
    """The places on the way up from the card at one place of the deck to the card at another one."""
    found, at = [], start
    while True:
        at += 1
        if at > count:
            at = 0
        found.append(at)
        if at == end:
            return found


class RiseAndFallTest(plain.Case, unittest.TestCase):

    def test_against_all_pairings(self):
        for mine, theirs in SMALL:
            before = plain.all_results(mine, theirs)
            for m in range(len(mine)):
                for t in range(len(theirs)):
                    won = plain.won(mine, theirs, m, t)
                    left = plain.all_results(plain.without(mine, m), plain.without(theirs, t))
                    rise = min(left) + won - min(before)
                    fall = max(before) - max(left) - won
                    found = rise_and_fall(mine, theirs, m, t)
                    self.assertIsInstance(found, tuple)
                    self.assertEqual(found, (rise, fall))
                    self.assertIs(type(found[0]), int)
                    self.assertIn(rise, (0, 1))
                    self.assertIn(fall, (0, 1))

    def test_by_the_places_on_the_ways_up(self):
        for mine, theirs in HANDS:
            walk, n = plain.plain_heights(mine, theirs), len(mine)
            for m in range(0, n, 1 if n < 9 else 13):
                for t in range(0, n, 1 if n < 9 else 11):
                    mine_at = plain.place(mine, theirs, ("mine", m))
                    theirs_at = plain.place(mine, theirs, ("theirs", t))
                    rise = max(walk) in [walk[p] for p in places_up(2 * n, mine_at, theirs_at)]
                    fall = min(walk) in [walk[p] for p in places_up(2 * n, theirs_at, mine_at)]
                    self.assertEqual(rise_and_fall(mine, theirs, m, t), (rise, fall))

    def test_known_answers(self):
        self.assertEqual(rise_and_fall([5], [5], 0, 0), (0, 0))
        self.assertEqual(rise_and_fall([4], [5], 0, 0), (0, 0))
        self.assertEqual(rise_and_fall([2, 4], [1, 3], 0, 0), (1, 0))
        self.assertEqual(rise_and_fall([2, 4], [1, 3], 0, 1), (0, 1))

    def test_errors_in_their_order(self):
        self.raises(BadHands, {"mine_count": 1, "theirs_count": 2}, rise_and_fall, [1], [1, 2], 5, 5)
        self.raises(BadCard, {"side": "mine", "index": 2}, rise_and_fall, [1, 2], [1, 2], 2, 2)
        self.raises(BadCard, {"side": "mine", "index": -1}, rise_and_fall, [1, 2], [1, 2], -1, 0)
        self.raises(BadCard, {"side": "theirs", "index": -1}, rise_and_fall, [1, 2], [1, 2], 0, -1)
        self.raises(BadCard, {"side": "theirs", "index": 2}, rise_and_fall, [1, 2], [1, 2], 0, 2)
        self.raises(BadCard, {"side": "mine", "index": 0}, rise_and_fall, [], [], 0, 0)


if __name__ == "__main__":
    unittest.main()
