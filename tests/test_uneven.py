"""climbrow.uneven: points 61, 62 and the interface."""

import copy
import functools
import itertools
import random
import unittest

import plain
from climbrow.errors import BadCard, BadPlace, BadWord, OutOfTurn
from climbrow.rows import value_of
from climbrow.uneven import UnevenGuide, top_cards, uneven_value

SIDES = ("mine", "theirs")
SMALL = plain.uneven_hands(131, 50, 4) + [([1, 1, 2], [1, 1, 2]), ([1, 3, 5, 7], [2, 4]), ([2], [1, 3, 5])]


def played_in_part(mine, theirs, word):
    """The result of best play with all cards, where there are as many rounds as letters."""
    @functools.cache
    def best(my_left, their_left, at):
        if at == len(word):
            return 0
        made = {(m, t): plain.won(mine, theirs, m, t) + best(my_left - {m}, their_left - {t}, at + 1)
                for m in my_left for t in their_left}
        if word[at] == "M":
            return max(min(made[m, t] for t in their_left) for m in my_left)
        return min(max(made[m, t] for m in my_left) for t in their_left)
    return best(frozenset(range(len(mine))), frozenset(range(len(theirs))), 0)


class Watched:
    """The words of point 62, beside a guide."""

    def __init__(self, mine, theirs, rounds, side):
        self.hands = {"mine": list(mine), "theirs": list(theirs)}
        order = plain.plain_deck(mine, theirs)
        own = {side: [k for whose, k in order if whose == side] for side in SIDES}
        self.real = {side: own[side][len(own[side]) - rounds:] for side in SIDES}
        self.left = {side: list(range(len(self.hands[side]))) for side in SIDES}
        self.side, self.other = (side, "theirs" if side == "mine" else "mine")
        self.won = 0
        self.guide = UnevenGuide(mine, theirs, rounds, side)

    def real_hands(self):
        """The real cards as two hands of one length, and their indexes in the whole hands."""
        indexes = {side: sorted(self.real[side]) for side in SIDES}
        return [self.hands["mine"][k] for k in indexes["mine"]], [self.hands["theirs"][k] for k in indexes["theirs"]], indexes

    def read(self, side, index):
        return index if index in self.real[side] else self.real[side][0]

    def lay(self):
        mine, theirs, indexes = self.real_hands()
        levels = plain.plain_levels(mine, theirs, self.side)
        wanted = min(levels) if self.side == "mine" else max(levels)
        order = [k for side, k in plain.plain_deck(mine, theirs) if side == self.side]
        return indexes[self.side][[k for k in order if levels[k] == wanted][0]]

    def answer(self, index):
        mine, theirs, indexes = self.real_hands()
        at = indexes[self.other].index(self.read(self.other, index))
        return indexes[self.side][plain.answers_in_order(mine, theirs, self.other, at)[0]]

    def promise(self, word):
        mine, theirs, _ = self.real_hands()
        return self.won + value_of(mine, theirs, word)

    def saw(self, m, t):
        self.won += plain.won(self.hands["mine"], self.hands["theirs"], m, t)
        for side, index in (("mine", m), ("theirs", t)):
            self.real[side].remove(self.read(side, index))
            self.left[side].remove(index)
        self.guide.saw(m, t)

    def rounds_left(self):
        return len(self.real["mine"])


def shown(watched):
    """All that a guide tells."""
    guide, rounds = watched.guide, watched.rounds_left()
    promises = [guide.promise(word) for word in plain.all_words(rounds)]
    if not rounds:
        return guide.won, promises
    return guide.won, guide.lay(), [guide.answer(k) for k in watched.left[watched.other]], promises


class TopCardsTest(plain.Case, unittest.TestCase):

    def test_the_last_cards_of_the_side_in_the_deck(self):
        for mine, theirs in plain.uneven_hands(132, 80, 12) + [([7] * 40, [1]), ([], [])]:
            for rounds in range(len(mine) + 1):
                order = [k for side, k in plain.plain_deck(mine, theirs) if side == "mine"]
                self.assertEqual(top_cards(mine, rounds), sorted(order[len(order) - rounds:]))

    def test_known_answers(self):
        self.assertEqual([top_cards([5, 1, 5, 3], k) for k in range(5)], [[], [2], [0, 2], [0, 2, 3], [0, 1, 2, 3]])
        self.assertEqual(top_cards([2, 2, 2], 2), [1, 2])
        self.assertEqual(top_cards([plain.HIGH, plain.LOW, 0], 2), [0, 2])
        self.assertEqual(top_cards([], 0), [])

    def test_wrong_numbers_of_rounds(self):
        for hand in ([], [1, 2]):
            for rounds in (-1, len(hand) + 1, 99):
                self.raises(BadPlace, {"place": rounds}, top_cards, hand, rounds)

    def test_the_hand_stays_as_it_was(self):
        hand = [3, 1, 2]
        top_cards(hand, 3).clear()
        top_cards(hand, 2).reverse()
        self.assertEqual(hand, [3, 1, 2])


class ValueTest(plain.Case, unittest.TestCase):

    def test_best_play_with_all_cards(self):
        values = set()
        for mine, theirs in SMALL:
            for rounds in range(min(len(mine), len(theirs)) + 1):
                for word in plain.all_words(rounds):
                    found = uneven_value(mine, theirs, word)
                    self.assertEqual(found, played_in_part(mine, theirs, word), (mine, theirs, word))
                    values.add(found)
        self.assertLessEqual({0, 1, 2, 3, 4}, values)

    def test_hands_of_one_length(self):
        for mine, theirs in plain.small_hands(2) + plain.all_orders(3):
            for word in plain.all_words(len(mine)):
                self.assertEqual(uneven_value(mine, theirs, word), plain.played(mine, theirs, word, "mine"))

    def test_known_answers(self):
        self.assertEqual(uneven_value([1, 3, 5], [2, 4], "M"), 1)
        self.assertEqual(uneven_value([1, 3, 5], [6, 4], "M"), 0)
        self.assertEqual([uneven_value([], [1, 2], ""), uneven_value([1], [2], ""), uneven_value([], [], "")], [0, 0, 0])
        self.assertEqual(uneven_value([0] * 39 + [9], [8] * 40, "T"), 1)
        self.assertEqual(uneven_value([plain.HIGH] * 40, [plain.HIGH] * 2, "MT"), 2)

    def test_wrong_words(self):
        for mine, theirs in (([1, 2, 3], [1, 2]), ([1, 2], [1, 2, 3])):
            self.raises(BadWord, {"position": 2}, uneven_value, mine, theirs, "MTM")
            self.raises(BadWord, {"position": 2}, uneven_value, mine, theirs, "MTMTM")
            self.raises(BadWord, {"position": 1}, uneven_value, mine, theirs, "Mx")
            self.raises(BadWord, {"position": 3}, uneven_value, mine, theirs, "MTMm")
        self.raises(BadWord, {"position": 0}, uneven_value, [], [1], "M")


class GuideTest(plain.Case, unittest.TestCase):

    def check(self, watched):
        guide, rounds = watched.guide, watched.rounds_left()
        self.assertEqual(guide.won, watched.won)
        for word in plain.all_words(rounds) if rounds < 5 else ["M" * rounds, "TM" * (rounds // 2) + "T" * (rounds % 2)]:
            self.assertEqual(guide.promise(word), watched.promise(word))
        if rounds:
            self.assertEqual(guide.lay(), watched.lay())
            for index in watched.left[watched.other]:
                self.assertEqual(guide.answer(index), watched.answer(index))

    def test_the_words_of_the_document_in_all_plays_of_both_sides(self):
        source = random.Random(133)
        for mine, theirs in SMALL + plain.uneven_hands(134, 25, 9) + plain.uneven_hands(135, 2, 40):
            for side in SIDES:
                rounds = source.randint(0, min(len(mine), len(theirs)))
                watched = Watched(mine, theirs, rounds, side)
                self.check(watched)
                while watched.rounds_left():
                    # Either side may play any card that is left, the guide's side, too.
                    self.assertIsNone(watched.saw(source.choice(watched.left["mine"]),
                                                  source.choice(watched.left["theirs"])))
                    self.check(watched)

    def test_the_promise_never_gets_worse_whatever_the_other_side_plays(self):
        for mine, theirs in SMALL[::2] + SMALL[-3:]:
            for side in SIDES:
                for rounds in range(min(len(mine), len(theirs), 3) + 1):
                    self.follow(Watched(mine, theirs, rounds, side))

    def follow(self, watched):
        """Try all plays of the other side in all words, as long as the guide's side follows the plan."""
        rounds = watched.rounds_left()
        if not rounds:
            return
        own, other = ("M", "T") if watched.side == "mine" else ("T", "M")
        better = 1 if watched.side == "mine" else -1
        for index in watched.left[watched.other]:
            for letter, played in ((own, watched.guide.lay()), (other, watched.guide.answer(index))):
                later = copy.deepcopy(watched)
                later.saw(*plain.pair_of(watched.side, played, index))
                for word in plain.all_words(rounds - 1):
                    change = later.guide.promise(word) - watched.guide.promise(letter + word)
                    self.assertGreaterEqual(change * better, 0)
                self.follow(later)

    def test_a_card_that_is_not_real_counts_as_the_lowest_real_one(self):
        # Real are mine 1, 2 and theirs 0, 2; their card 1 is read as their card 2, my card 0 as my card 1.
        guide = UnevenGuide([0, 3, 6], [7, 1, 4], 2, "mine")
        self.assertEqual([guide.answer(k) for k in range(3)], [1, 2, 2])
        guide.saw(0, 1)
        # The pair was lost as it stands, and the real cards mine 1 and theirs 2 are gone for it.
        self.assertEqual((guide.won, guide.promise("M"), guide.lay()), (0, 0, 2))
        self.assertEqual([guide.answer(k) for k in (0, 2)], [2, 2])
        guide.saw(1, 2)
        self.assertEqual((guide.won, guide.promise("")), (0, 0))
        guide = UnevenGuide([0, 3, 6], [7, 1, 4], 2, "theirs")
        self.assertEqual([guide.answer(k) for k in range(3)], [2, 2, 0])
        guide.saw(1, 1)
        self.assertEqual((guide.won, guide.promise("T")), (1, 1))
        # My cards 0 and 2 are left and only 2 is real; of theirs, only 0 is.
        self.assertEqual((guide.lay(), guide.answer(0), guide.answer(2)), (0, 0, 0))

    def test_equal_numbers_that_are_not_real(self):
        watched = Watched([2, 2, 2, 2], [2, 2, 3], 2, "theirs")
        self.assertEqual(watched.real, {"mine": [2, 3], "theirs": [1, 2]})
        self.check(watched)
        watched.saw(0, 0)
        self.assertEqual(watched.real, {"mine": [3], "theirs": [2]})
        self.check(watched)
        watched.saw(2, 1)
        self.assertEqual(watched.guide.won, 2)

    def test_no_rounds_and_one_round(self):
        for mine, theirs in (([], []), ([1], []), ([1, 2], [3])):
            for side in SIDES:
                guide = UnevenGuide(mine, theirs, 0, side)
                self.assertEqual((guide.won, guide.promise("")), (0, 0))
                self.raises(OutOfTurn, {}, guide.lay)
        guide = UnevenGuide([5, 2, 4], [4, 6], 1, "mine")
        self.assertEqual((guide.lay(), guide.answer(0), guide.answer(1), guide.promise("M")), (0, 0, 0, 0))
        guide.saw(0, 0)
        self.assertEqual((guide.won, guide.promise("")), (1, 1))

    def test_lists_that_were_passed_may_change(self):
        mine, theirs = [1, 4, 2], [3, 1]
        guide = UnevenGuide(mine, theirs, 2, "mine")
        first = UnevenGuide([1, 4, 2], [3, 1], 2, "mine")
        mine.clear()
        theirs[0] = 77
        self.assertEqual((guide.lay(), guide.answer(1), guide.promise("MT")), (first.lay(), first.answer(1), first.promise("MT")))
        guide.saw(0, 1)
        guide.saw(1, 0)
        self.assertEqual(guide.won, 2)

    def test_lay_answer_and_promise_change_nothing(self):
        watched = Watched([1, 4, 2], [3, 1], 2, "mine")
        self.assertEqual(shown(watched), shown(watched))


class WrongCallsTest(plain.Case, unittest.TestCase):

    def test_wrong_numbers_of_rounds(self):
        for mine, theirs in (([], []), ([1], []), ([1, 2], [1, 2, 3]), ([1, 2, 3], [2])):
            for rounds in (-1, min(len(mine), len(theirs)) + 1, 70):
                for side in SIDES:
                    self.raises(BadPlace, {"place": rounds}, UnevenGuide, mine, theirs, rounds, side)

    def test_all_rounds_are_played(self):
        for side in SIDES:
            guide = UnevenGuide([1, 2, 3], [1, 2], 1, side)
            guide.saw(0, 0)
            for _ in range(2):
                self.raises(OutOfTurn, {}, guide.lay)
                for index in (1, 0, -1, 9):
                    self.raises(OutOfTurn, {}, guide.answer, index)
                    self.raises(OutOfTurn, {}, guide.saw, index, 1)
                self.assertEqual((guide.won, guide.promise("")), (1, 1))
                self.raises(BadWord, {"position": 0}, guide.promise, "M")

    def test_cards_that_are_not_left(self):
        for side in SIDES:
            watched = Watched([1, 2, 3, 4], [1, 2, 3], 3, side)
            watched.saw(0, 2)
            before = shown(watched)
            gone, count = (2, 3) if side == "mine" else (0, 4)
            for index in (-1, count, gone):
                self.raises(BadCard, {"side": watched.other, "index": index}, watched.guide.answer, index)
            for index in (-1, 4, 0):
                self.raises(BadCard, {"side": "mine", "index": index}, watched.guide.saw, index, 2)
            for index in (-1, 3, 2):
                self.raises(BadCard, {"side": "theirs", "index": index}, watched.guide.saw, 1, index)
            self.assertEqual(shown(watched), before)

    def test_wrong_words(self):
        guide = UnevenGuide([1, 2, 3, 4], [1, 2, 3], 2, "mine")
        self.raises(BadWord, {"position": 1}, guide.promise, "M")
        self.raises(BadWord, {"position": 2}, guide.promise, "MTM")
        self.raises(BadWord, {"position": 1}, guide.promise, "M?")
        guide.saw(0, 0)
        self.raises(BadWord, {"position": 1}, guide.promise, "MM")
        self.raises(BadWord, {"position": 0}, guide.promise, "")


if __name__ == "__main__":
    unittest.main()
