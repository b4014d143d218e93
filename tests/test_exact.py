"""climbrow.exact: points 29, 40 and the interface."""

import itertools
import random
import unittest

import plain
from climbrow.errors import BadCard, BadHands, BadWord, OutOfTurn, Unreachable, Unsteady
from climbrow.exact import ExactGuide
from climbrow.levels import row_of
from climbrow.turns import exact_range, is_steady


def value(row, word, many):
    """Point 26: the entry at the index of the lays of the side that wishes for many."""
    own, other = ("M", "T") if many == "mine" else ("T", "M")
    return word[:-1].count(other) + 1 + row[word[:-1].count(own)]


class PlainExact:
    """Point 40 in the words of the document: everything is counted in, and the wanted result stays."""

    def __init__(self, mine, theirs, word, wanted, pairs):
        self.my_left = [k for k in range(len(mine)) if k not in [m for m, _ in pairs]]
        self.their_left = [k for k in range(len(theirs)) if k not in [t for _, t in pairs]]
        self.mine, self.theirs = [mine[k] for k in self.my_left], [theirs[k] for k in self.their_left]
        self.word, self.wanted = word[len(pairs):], wanted
        self.won = sum(plain.won(mine, theirs, m, t) for m, t in pairs)

    def shorter(self, t):
        levels = plain.plain_levels(self.mine, self.theirs, "theirs")
        row = sorted(level + self.won for level in levels)
        row.remove(levels[t] + self.won)
        return row

    def may_lay(self, m):
        f, s = self.word[:-1].count("M"), self.word[:-1].count("T")
        order = plain.answers_in_order(self.mine, self.theirs, "mine", m)
        return (self.shorter(order[0])[f - 1] + s + 1 >= self.wanted
                and self.shorter(order[-1])[s] + f + 1 <= self.wanted)

    def may_answer(self, m, t):
        row = [entry + self.won for entry in plain.after_pair(self.mine, self.theirs, m, t)]
        return value(row, self.word[1:], "theirs") <= self.wanted <= value(row, self.word[1:], "mine")

    def lay(self):
        order = [k for side, k in plain.plain_deck(self.mine, self.theirs) if side == "mine"]
        good = order if len(order) == 1 else [m for m in order if self.may_lay(m)]
        return self.my_left[(good + order)[0]], bool(good)

    def answer(self, index):
        t = self.their_left.index(index)
        order = plain.answers_in_order(self.mine, self.theirs, "theirs", t)
        good = order if len(order) == 1 else [m for m in order if self.may_answer(m, t)]
        return self.my_left[(good + order)[0]], bool(good)


def steady_words(n):
    return [word for word in plain.all_words(n) if is_steady(word)]


def steady_word(source, n):
    """A steady word of n letters, built from its end."""
    found, lead = source.choice("MT"), 0
    while len(found) < n:
        letter = source.choice("MMT") if lead > 0 else "T"
        lead += 1 if letter == "T" else -1
        found = letter + found
    return found[len(found) - n:]


def guided(mine, theirs, word, wanted, pairs):
    guide = ExactGuide(mine, theirs, word, wanted)
    for m, t in pairs:
        guide.saw(m, t)
    return guide


class ExactGuideTest(plain.Case, unittest.TestCase):

    def results(self, mine, theirs, word, wanted, pairs):
        """The results of all plays in which the guide plays for mine, checking each of its choices."""
        model = PlainExact(mine, theirs, word, wanted, pairs)
        guide = guided(mine, theirs, word, wanted, pairs)
        self.assertEqual((guide.needed, guide.word), (wanted - model.won, model.word))
        if not model.word:
            return [model.won]
        if model.word[0] == "M":
            laid = guide.lay()
            self.assertEqual((laid, True), model.lay())
            made = [(laid, t) for t in model.their_left]
        else:
            made = []
            for t in model.their_left:
                answer = guide.answer(t)
                self.assertEqual((answer, True), model.answer(t))
                made.append((answer, t))
        return [found for pair in made for found in self.results(mine, theirs, word, wanted, [*pairs, pair])]

    def test_it_brings_about_the_wanted_result_against_every_play(self):
        hands = plain.small_hands(1) + plain.small_hands(2) + plain.all_orders(3) + plain.all_orders(4)[::11]
        for mine, theirs in hands + [([], [])]:
            for word in steady_words(len(mine)):
                low, high = exact_range(row_of(mine, theirs), word)
                for wanted in range(low, high + 1):
                    self.assertEqual(set(self.results(mine, theirs, word, wanted, [])), {wanted})

    def test_longer_duels(self):
        source = random.Random(43)
        for mine, theirs in plain.some_hands(41, 40, 12, 0, 9) + [(list(range(0, 80, 2)), list(range(1, 81, 2)))]:
            n = len(mine)
            word = steady_word(source, n)
            low, high = exact_range(row_of(mine, theirs), word)
            for wanted in (low, (low + high) // 2, high):
                guide, pairs = ExactGuide(mine, theirs, word, wanted), []
                order = plain.shuffled(n, n)
                for letter, t in zip(word, order):
                    found = guide.lay() if letter == "M" else guide.answer(t)
                    # The plain model is too slow for the longest duel.
                    if n <= 12:
                        model = PlainExact(mine, theirs, word, wanted, pairs)
                        self.assertEqual((found, True), model.lay() if letter == "M" else model.answer(t))
                    pairs.append((found, t))
                    guide.saw(*pairs[-1])
                self.assertEqual(sum(plain.won(mine, theirs, m, t) for m, t in pairs), wanted)
                self.assertEqual((guide.needed, guide.word), (0, ""))

    def test_what_it_takes_if_mine_did_not_follow_it(self):
        missing = 0
        for mine, theirs in plain.all_orders(3) + plain.all_orders(4)[::9] + plain.some_hands(44, 9, 4, 0, 3):
            n = len(mine)
            for word in steady_words(n):
                low, high = exact_range(row_of(mine, theirs), word)
                for wanted, order in itertools.product({low, high}, itertools.permutations(range(n), n // 2)):
                    pairs = list(zip(order, range(n)))
                    model = PlainExact(mine, theirs, word, wanted, pairs)
                    guide = guided(mine, theirs, word, wanted, pairs)
                    if model.word[:1] == "M":
                        found = [(guide.lay(), model.lay())]
                    else:
                        found = [(guide.answer(t), model.answer(t)) for t in model.their_left]
                    for choice, (expected, good) in found:
                        self.assertEqual(choice, expected)
                        missing += not good
        self.assertGreater(missing, 50)

    def test_one_card_left(self):
        for wanted, their_number in ((1, 5), (0, 6)):
            self.assertEqual(ExactGuide([5], [their_number], "M", wanted).lay(), 0)
            self.assertEqual(ExactGuide([5], [their_number], "T", wanted).answer(0), 0)

    def test_one_card_left_after_other_plays(self):
        guide = ExactGuide([1, 2], [1, 2], "TM", 2)
        guide.saw(0, 1)
        self.assertEqual((guide.needed, guide.word, guide.lay()), (2, "M", 1))
        guide = ExactGuide([1, 2], [1, 2], "TT", 2)
        guide.saw(0, 1)
        self.assertEqual(guide.answer(0), 1)

    def test_lay_and_answer_change_nothing(self):
        guide = ExactGuide([1, 3, 5], [2, 4, 6], "TTM", 1)
        first = [guide.answer(t) for t in range(3)]
        self.assertEqual([guide.answer(t) for t in range(3)], first)
        self.assertEqual((guide.needed, guide.word), (1, "TTM"))
        self.assertIsNone(guide.saw(first[0], 0))
        self.assertEqual(guide.word, "TM")
        guide = ExactGuide([1, 3, 5], [2, 4, 6], "MTT", 1)
        self.assertEqual([guide.lay(), guide.lay()], [guide.lay()] * 2)
        self.assertEqual((guide.needed, guide.word), (1, "MTT"))

    def test_lists_that_were_passed_may_change(self):
        mine, theirs = [1, 3, 5], [2, 4, 6]
        guide = ExactGuide(mine, theirs, "TTM", 1)
        expected = [ExactGuide([1, 3, 5], [2, 4, 6], "TTM", 1).answer(t) for t in range(3)]
        mine[:] = [9]
        theirs.append(1)
        self.assertEqual([guide.answer(t) for t in range(3)], expected)


class WrongCallsTest(plain.Case, unittest.TestCase):

    def test_creation_errors_in_their_order(self):
        mine, theirs = [1, 1, 2], [1, 1, 2]
        self.raises(BadHands, {"mine_count": 3, "theirs_count": 1}, ExactGuide, mine, [1], "MMx", 9)
        self.raises(BadWord, {"position": 2}, ExactGuide, mine, theirs, "MMx", 9)
        self.raises(BadWord, {"position": 2}, ExactGuide, mine, theirs, "MM", 9)
        self.raises(BadWord, {"position": 3}, ExactGuide, mine, theirs, "MMMM", 9)
        self.raises(BadWord, {"position": 0}, ExactGuide, [], [], "M", 0)
        self.raises(Unsteady, {"position": 1}, ExactGuide, mine, theirs, "TMT", 9)
        self.raises(Unsteady, {"position": 1}, ExactGuide, mine, theirs, "MMM", 9)
        for wanted in (1, 4, -1):
            told = {"wanted": wanted, "lowest": 2, "highest": 3}
            self.raises(Unreachable, told, ExactGuide, mine, theirs, "TTM", wanted)
        self.raises(Unreachable, {"wanted": 1, "lowest": 0, "highest": 0}, ExactGuide, [], [], "", 1)
        self.assertEqual(ExactGuide([], [], "", 0).needed, 0)

    def test_out_of_turn(self):
        empty = ExactGuide([], [], "", 0)
        self.raises(OutOfTurn, {}, empty.lay)
        self.raises(OutOfTurn, {}, empty.answer, 0)
        guide = ExactGuide([1, 1, 2], [1, 1, 2], "TTM", 3)
        self.raises(OutOfTurn, {}, guide.lay)
        guide.saw(0, 0)
        guide.saw(1, 1)
        self.raises(OutOfTurn, {}, guide.answer, 2)
        self.raises(OutOfTurn, {}, guide.answer, 7)
        self.assertEqual(guide.lay(), 2)
        guide.saw(2, 2)
        self.raises(OutOfTurn, {}, guide.lay)
        self.raises(OutOfTurn, {}, guide.answer, 2)

    def test_cards_that_are_not_left(self):
        guide = ExactGuide([1, 1, 2], [1, 1, 2], "TTM", 3)
        guide.saw(1, 2)
        for index in (-1, 2, 3):
            self.raises(BadCard, {"side": "theirs", "index": index}, guide.answer, index)
        self.raises(BadCard, {"side": "mine", "index": 1}, guide.saw, 1, 2)
        self.raises(BadCard, {"side": "mine", "index": -1}, guide.saw, -1, 0)
        self.raises(BadCard, {"side": "theirs", "index": 2}, guide.saw, 0, 2)
        self.raises(BadCard, {"side": "theirs", "index": 3}, guide.saw, 0, 3)
        self.assertEqual((guide.needed, guide.word), (3, "TM"))
        guide.saw(0, 0)
        self.assertEqual((guide.needed, guide.word), (2, "M"))


if __name__ == "__main__":
    unittest.main()
