"""climbrow.moves: points 35 to 37 and the interface."""

import unittest

import plain
from climbrow.cards import next_down, next_up
from climbrow.errors import BadCard, BadHands, BadWord
from climbrow.moves import answer_values, best_answers, best_lays, chain, lay_values
from climbrow.rows import value_of

SIDES = ("mine", "theirs")
HANDS = (plain.small_hands(1) + plain.small_hands(2, 2) + plain.all_orders(3) + plain.small_hands(3, 2)[::3]
         + plain.all_orders(4)[::7])


def acting(word):
    """The side that lays and the side that answers."""
    return ("mine", "theirs") if word[0] == "M" else ("theirs", "mine")


class ChainTest(plain.Case, unittest.TestCase):

    def test_answers_with_the_rows_that_are_left(self):
        for mine, theirs in plain.sample_hands():
            for side in SIDES:
                for index in range(len(mine))[:5]:
                    found = chain(mine, theirs, side, index)
                    order = plain.answers_in_order(mine, theirs, side, index)
                    if len(mine) > 9:
                        found, order = found[::9], order[::9]
                    expected = [(answer, plain.after_pair(mine, theirs, *plain.pair_of(side, index, answer)))
                                for answer in order]
                    self.assertEqual(found, expected)

    def test_the_rows_form_a_chain(self):
        for mine, theirs in HANDS + plain.all_orders(5)[::12]:
            for side in SIDES:
                for index in range(len(mine)):
                    rows = [row for _, row in chain(mine, theirs, side, index)]
                    self.assertEqual(len(rows), len(mine))
                    for before, after in zip(rows, rows[1:]):
                        steps = {upper - lower for lower, upper in zip(before, after)}
                        self.assertLessEqual(steps, {0, 1} if side == "mine" else {0, -1})

    def test_known_answers(self):
        self.assertEqual(chain([1, 1, 2], [1, 1, 2], "mine", 1), [(2, [0, 1]), (0, [1, 1]), (1, [1, 1])])
        self.assertEqual(chain([5], [6], "mine", 0), [(0, [])])
        self.assertEqual(chain([5], [6], "theirs", 0), [(0, [])])

    def test_wrong_calls(self):
        self.raises(BadHands, {"mine_count": 2, "theirs_count": 1}, chain, [1, 2], [1], "mine", 9)
        for side in SIDES:
            for index in (-1, 2, 7):
                self.raises(BadCard, {"side": side, "index": index}, chain, [1, 2], [3, 4], side, index)
            self.raises(BadCard, {"side": side, "index": 0}, chain, [], [], side, 0)


class ValuesTest(plain.Case, unittest.TestCase):

    def test_values_of_answers_against_all_plays(self):
        for mine, theirs in HANDS:
            n = len(mine)
            for word in plain.all_words(n):
                side, other = acting(word)
                for many in SIDES:
                    lays = []
                    for index in range(n):
                        expected = [plain.worth(mine, theirs, *plain.pair_of(side, index, answer), word[1:], many)
                                    for answer in range(n)]
                        self.assertEqual(answer_values(mine, theirs, word, index, many=many), expected)
                        best = max(expected) if other == many else min(expected)
                        self.assertEqual(best_answers(mine, theirs, word, index, many=many),
                                         [k for k in range(n) if expected[k] == best])
                        lays.append(best)
                    self.assertEqual(lay_values(mine, theirs, word, many=many), lays)
                    best = max(lays) if side == many else min(lays)
                    self.assertEqual(best_lays(mine, theirs, word, many=many),
                                     [k for k in range(n) if lays[k] == best])
                    self.assertEqual(best, value_of(mine, theirs, word, many=many))

    def test_many_is_mine_if_nothing_is_said(self):
        mine, theirs = [1, 3, 5], [2, 4, 6]
        for word in plain.all_words(3):
            self.assertEqual(lay_values(mine, theirs, word), lay_values(mine, theirs, word, many="mine"))
            self.assertEqual(best_lays(mine, theirs, word), best_lays(mine, theirs, word, many="mine"))
            for call in (answer_values, best_answers):
                self.assertEqual(call(mine, theirs, word, 1), call(mine, theirs, word, 1, many="mine"))
        hands = [1, 1, 2], [1, 1, 2]
        self.assertEqual([lay_values(*hands, "TTM", many=many) for many in SIDES], [[3, 3, 3], [2, 2, 2]])
        self.assertEqual([answer_values(*hands, "TTM", 0, many=many) for many in SIDES], [[3, 3, 2], [2, 2, 2]])
        self.assertEqual([best_answers(*hands, "TTM", 0, many=many) for many in SIDES], [[0, 1], [0, 1, 2]])
        hands = [1, 3, 6], [2, 4, 5]
        self.assertEqual([best_lays(*hands, "MTM"), best_lays(*hands, "MTM", many="theirs")], [[0, 1, 2], [0, 2]])
        self.assertEqual([best_lays(*hands, "TMM"), best_lays(*hands, "TMM", many="theirs")], [[1, 2], [0, 1, 2]])

    def test_the_last_round(self):
        for many in SIDES:
            for word in "MT":
                self.assertEqual(lay_values([3], [3], word, many=many), [1])
                self.assertEqual(lay_values([2], [3], word, many=many), [0])
                self.assertEqual(answer_values([3], [3], word, 0, many=many), [1])
                self.assertEqual(answer_values([2], [3], word, 0, many=many), [0])
                self.assertEqual(best_answers([2], [3], word, 0, many=many), [0])

    def test_known_answers(self):
        self.assertEqual(lay_values([1, 1, 2], [1, 1, 2], "TTM"), [3, 3, 3])
        self.assertEqual(best_answers([1, 1, 2], [1, 1, 2], "TTM", 2), [2])
        self.assertEqual(answer_values([1, 1, 2], [1, 1, 2], "TTM", 2), [2, 2, 3])
        self.assertEqual(lay_values([9] * 40, [9] * 40, "M" * 40), [40] * 40)
        self.assertEqual(best_lays([0] * 40, [9] * 40, "T" * 40, many="theirs"), list(range(40)))

    def test_the_next_card_is_a_best_answer_under_any_word(self):
        for mine, theirs in HANDS:
            for word in plain.all_words(len(mine)):
                side, _ = acting(word)
                for index in range(len(mine)):
                    self.assertIn(next_up(mine, theirs, side, index), best_answers(mine, theirs, word, index))
                    self.assertIn(next_down(mine, theirs, side, index),
                                  best_answers(mine, theirs, word, index, many="theirs"))

    def test_empty_hands(self):
        self.assertEqual([lay_values([], [], ""), best_lays([], [], "")], [[], []])
        for index in (-1, 0, 3):
            self.raises(BadCard, {"side": "mine", "index": index}, answer_values, [], [], "", index)
            self.raises(BadCard, {"side": "mine", "index": index}, best_answers, [], [], "", index, many="theirs")

    def test_errors_in_their_order(self):
        for call, rest in ((lay_values, ()), (best_lays, ()), (answer_values, (9,)), (best_answers, (9,))):
            self.raises(BadHands, {"mine_count": 1, "theirs_count": 2}, call, [1], [1, 2], "xx", *rest)
            self.raises(BadWord, {"position": 1}, call, [1, 2], [1, 2], "Mx", *rest)
            self.raises(BadWord, {"position": 1}, call, [1, 2], [1, 2], "M", *rest)
            self.raises(BadWord, {"position": 2}, call, [1, 2], [1, 2], "MTM", *rest)
            self.raises(BadWord, {"position": 0}, call, [1, 2], [1, 2], "", *rest)
            self.raises(BadWord, {"position": 0}, call, [], [], "M", *rest)
        for call in (answer_values, best_answers):
            for index in (-1, 2):
                self.raises(BadCard, {"side": "mine", "index": index}, call, [1, 2], [1, 2], "MT", index)
                self.raises(BadCard, {"side": "theirs", "index": index}, call, [1, 2], [1, 2], "TM", index)


if __name__ == "__main__":
    unittest.main()
