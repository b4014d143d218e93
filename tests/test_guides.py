"""climbrow.guides: points 38, 39 and the interface."""

import copy
import itertools
import unittest

import plain
from climbrow.errors import BadCard, BadHands, BadWord, OutOfTurn
from climbrow.guides import Guide

SIDES = ("mine", "theirs")
HANDS = plain.small_hands(1, 2) + plain.small_hands(2) + plain.all_orders(3) + plain.all_orders(4)[::9]


def plan_lay(mine, theirs, side, many):
    """Point 38 in the words of the document."""
    levels = plain.plain_levels(mine, theirs, side)
    wanted = min(levels) if side == many else max(levels)
    return [k for whose, k in plain.plain_deck(mine, theirs) if whose == side and levels[k] == wanted][0]


def plan_answer(mine, theirs, laying, index, many):
    order = plain.answers_in_order(mine, theirs, laying, index)
    return order[0] if many == "mine" else order[-1]


def shown(guide):
    """All that a guide tells."""
    n = len(guide.left)
    answers = [guide.guide.answer(k) for k in range(9) if k in guide.other_left]
    return (guide.guide.won, guide.guide.side, guide.guide.many, answers,
            [guide.guide.promise(word) for word in plain.all_words(n)])


class Watched:
    """A guide beside the cards that are left."""

    def __init__(self, mine, theirs, side, many, pairs=()):
        self.mine, self.theirs, self.side, self.many = mine, theirs, side, many
        self.my_left = [k for k in range(len(mine)) if k not in [m for m, _ in pairs]]
        self.their_left = [k for k in range(len(theirs)) if k not in [t for _, t in pairs]]
        self.left = self.my_left if side == "mine" else self.their_left
        self.other_left = self.their_left if side == "mine" else self.my_left
        self.guide = Guide(mine, theirs, side, many=many)
        for m, t in pairs:
            self.guide.saw(m, t)

    def hands(self):
        return [self.mine[k] for k in self.my_left], [self.theirs[k] for k in self.their_left]

    def plan_lay(self):
        return self.left[plan_lay(*self.hands(), self.side, self.many)]

    def plan_answer(self, index):
        laying = "theirs" if self.side == "mine" else "mine"
        return self.left[plan_answer(*self.hands(), laying, self.other_left.index(index), self.many)]

    def made(self):
        """The pairs that may be made in the next round if the guide's side follows the plan, with the letter."""
        own, other = ("M", "T") if self.side == "mine" else ("T", "M")
        laid = self.guide.lay()
        found = [(own, plain.pair_of(self.side, laid, answer)) for answer in self.other_left]
        for index in self.other_left:
            found.append((other, plain.pair_of(self.side, self.guide.answer(index), index)))
        return found


class PlanTest(plain.Case, unittest.TestCase):

    def test_lays_and_answers_after_all_pairs_that_may_be_made(self):
        for mine, theirs in HANDS:
            n = len(mine)
            for side, many, count in itertools.product(SIDES, SIDES, range(n)):
                for chosen in list(itertools.permutations(range(n), count))[::2]:
                    watched = Watched(mine, theirs, side, many, list(zip(chosen, range(n - count, n))))
                    self.assertEqual(watched.guide.lay(), watched.plan_lay())
                    for index in watched.other_left:
                        self.assertEqual(watched.guide.answer(index), watched.plan_answer(index))

    def test_longer_hands(self):
        for mine, theirs in plain.some_hands(31, 8, 40, 0, 9):
            for side, many in itertools.product(SIDES, SIDES):
                pairs = list(zip(range(len(mine))[::3], range(len(mine))[::-3]))
                watched = Watched(mine, theirs, side, many, pairs)
                if watched.left:
                    self.assertEqual(watched.guide.lay(), watched.plan_lay())
                    for index in watched.other_left[::4]:
                        self.assertEqual(watched.guide.answer(index), watched.plan_answer(index))

    def test_known_answers(self):
        mine, theirs = [1, 1, 2], [1, 1, 2]
        self.assertEqual([Guide(mine, theirs, "mine").lay(), Guide(mine, theirs, "mine", many="theirs").lay()], [1, 0])
        self.assertEqual([Guide(mine, theirs, "theirs").lay(), Guide(mine, theirs, "theirs", many="theirs").lay()],
                         [1, 0])
        self.assertEqual([Guide(mine, theirs, "mine").answer(k) for k in range(3)], [0, 0, 2])
        self.assertEqual([Guide(mine, theirs, "mine", many="theirs").answer(k) for k in range(3)], [2, 2, 1])
        self.assertEqual([Guide(mine, theirs, "theirs").answer(k) for k in range(3)], [2, 2, 0])
        self.assertEqual([Guide(mine, theirs, "theirs", many="theirs").answer(k) for k in range(3)], [1, 1, 2])

    def test_attributes(self):
        guide = Guide([1, 2], [1, 2], "theirs")
        self.assertEqual((guide.side, guide.many, guide.won), ("theirs", "mine", 0))
        self.assertIsNone(guide.saw(1, 0))
        self.assertEqual(guide.won, 1)
        guide.saw(0, 1)
        self.assertEqual(guide.won, 1)
        self.assertEqual(Guide([], [], "mine", many="theirs").many, "theirs")

    def test_lay_and_answer_change_nothing(self):
        watched = Watched([1, 4, 2], [3, 1, 2], "mine", "mine")
        before = shown(watched)
        for _ in range(3):
            watched.guide.lay()
            watched.guide.answer(2)
        self.assertEqual(shown(watched), before)

    def test_lists_that_were_passed_may_change(self):
        mine, theirs = [1, 4, 2], [3, 1, 2]
        guide = Guide(mine, theirs, "mine")
        first = Guide([1, 4, 2], [3, 1, 2], "mine")
        mine.clear()
        theirs[0] = 77
        self.assertEqual((guide.lay(), [guide.answer(k) for k in range(3)], guide.promise("MMM")),
                         (first.lay(), [first.answer(k) for k in range(3)], first.promise("MMM")))
        guide.saw(1, 0)
        self.assertEqual(guide.won, 1)


class PromiseTest(plain.Case, unittest.TestCase):

    def test_it_is_the_won_pairs_plus_the_value_of_what_is_left(self):
        for mine, theirs in plain.small_hands(2) + plain.all_orders(3)[::3]:
            n = len(mine)
            for side, many, count in itertools.product(SIDES, SIDES, range(n + 1)):
                pairs = [(m, (m + 1) % n) for m in range(count)]
                watched = Watched(mine, theirs, side, many, pairs)
                won = sum(plain.won(mine, theirs, m, t) for m, t in pairs)
                self.assertEqual(watched.guide.won, won)
                for word in plain.all_words(n - count):
                    self.assertEqual(watched.guide.promise(word), won + plain.played(*watched.hands(), word, many))

    def test_it_never_gets_worse_if_the_plan_is_followed(self):
        for mine, theirs in HANDS:
            for side, many in itertools.product(SIDES, SIDES):
                waiting, seen = [()], set()
                while waiting:
                    pairs = waiting.pop()
                    watched = Watched(mine, theirs, side, many, pairs)
                    key = (tuple(watched.my_left), tuple(watched.their_left))
                    if not watched.left or key in seen:
                        continue
                    seen.add(key)
                    for letter, pair in watched.made():
                        self.check_one_round(watched, letter, pair)
                        waiting.append((*pairs, pair))

    def check_one_round(self, watched, letter, pair):
        """Whatever is made under the letter, each promise for the later letters is as good as before."""
        later = copy.deepcopy(watched.guide)
        later.saw(*pair)
        better = 1 if watched.side == watched.many else -1
        for word in plain.all_words(len(watched.left) - 1):
            before = watched.guide.promise(letter + word)
            self.assertGreaterEqual((later.promise(word) - before) * better, 0, (watched.hands(), letter, pair))

    def test_the_result_against_every_play_from_the_middle_on(self):
        for mine, theirs in plain.all_orders(3):
            for side, many, word in itertools.product(SIDES, SIDES, plain.all_words(3)):
                # The first pair does not follow the plan; from then on the promise holds.
                for first in itertools.product(range(3), repeat=2):
                    promise = Watched(mine, theirs, side, many, [first]).guide.promise(word[1:])
                    results = self.results(mine, theirs, side, many, word, (first,))
                    if side == many:
                        self.assertGreaterEqual(min(results), promise)
                    else:
                        self.assertLessEqual(max(results), promise)

    def results(self, mine, theirs, side, many, word, pairs):
        watched = Watched(mine, theirs, side, many, pairs)
        if not watched.left:
            return [watched.guide.won]
        made = [pair for letter, pair in watched.made() if letter == word[len(pairs)]]
        return [found for pair in made for found in self.results(mine, theirs, side, many, word, (*pairs, pair))]

    def test_known_answers(self):
        mine, theirs = [1, 1, 2], [1, 1, 2]
        self.assertEqual([Guide(mine, theirs, side).promise("TTM") for side in SIDES], [3, 3])
        self.assertEqual([Guide(mine, theirs, side, many="theirs").promise("TTM") for side in SIDES], [2, 2])
        self.assertEqual(Guide([], [], "mine").promise(""), 0)
        self.assertEqual(Guide([7] * 40, [7] * 40, "theirs").promise("M" * 40), 40)


class WrongCallsTest(plain.Case, unittest.TestCase):

    def test_hands_of_different_lengths(self):
        self.raises(BadHands, {"mine_count": 2, "theirs_count": 0}, Guide, [1, 2], [], "mine")
        self.raises(BadHands, {"mine_count": 0, "theirs_count": 1}, Guide, [], [3], "theirs", many="theirs")

    def test_no_cards_left(self):
        for side in SIDES:
            guide = Guide([], [], side)
            self.raises(OutOfTurn, {}, guide.lay)
            self.raises(BadCard, {"side": "theirs" if side == "mine" else "mine", "index": 0}, guide.answer, 0)
            guide = Guide([1], [1], side)
            guide.saw(0, 0)
            self.raises(OutOfTurn, {}, guide.lay)
            self.raises(BadCard, {"side": "theirs" if side == "mine" else "mine", "index": 0}, guide.answer, 0)
            self.assertEqual(guide.promise(""), 1)

    def test_cards_that_are_not_left(self):
        for side, other in (SIDES, SIDES[::-1]):
            watched = Watched([1, 2, 3], [1, 2, 3], side, "mine", [(1, 2)])
            before = shown(watched)
            gone = 2 if other == "theirs" else 1
            for index in (-1, 3, gone):
                self.raises(BadCard, {"side": other, "index": index}, watched.guide.answer, index)
            self.raises(BadCard, {"side": "mine", "index": 1}, watched.guide.saw, 1, 2)
            self.raises(BadCard, {"side": "mine", "index": -1}, watched.guide.saw, -1, 9)
            self.raises(BadCard, {"side": "mine", "index": 3}, watched.guide.saw, 3, 0)
            self.raises(BadCard, {"side": "theirs", "index": 2}, watched.guide.saw, 0, 2)
            self.raises(BadCard, {"side": "theirs", "index": -1}, watched.guide.saw, 0, -1)
            self.assertEqual(shown(watched), before)

    def test_wrong_words(self):
        guide = Guide([1, 2], [1, 2], "mine")
        self.raises(BadWord, {"position": 1}, guide.promise, "M")
        self.raises(BadWord, {"position": 2}, guide.promise, "MTM")
        self.raises(BadWord, {"position": 0}, guide.promise, "?")
        guide.saw(0, 0)
        self.raises(BadWord, {"position": 1}, guide.promise, "MM")
        self.raises(BadWord, {"position": 0}, guide.promise, "")


if __name__ == "__main__":
    unittest.main()
