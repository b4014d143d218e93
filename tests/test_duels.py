"""climbrow.duels: points 32 to 34 and the interface."""

import copy
import itertools
import random
import unittest

import plain
from climbrow.duels import Duel
from climbrow.errors import BadCard, BadHands, BadWord, OutOfTurn


def shown(duel):
    """All that a duel tells."""
    return (duel.mine, duel.theirs, duel.word, duel.pairs, list(duel), duel.won, duel.open_card, duel.due,
            duel.rounds_left, duel.rest())


class Model:
    """A duel kept in the plainest way: what is gone is read off the list of deeds."""

    def __init__(self, mine, theirs, word):
        self.mine, self.theirs, self.word, self.deeds = list(mine), list(theirs), word, []

    def pairs(self):
        made = []
        for first, second in zip(self.deeds[::2], self.deeds[1::2]):
            cards = dict([first, second])
            made.append((cards["mine"], cards["theirs"]))
        return made

    def open_card(self):
        return self.deeds[-1] if len(self.deeds) % 2 else None

    def due(self):
        if len(self.deeds) % 2:
            return ("mine" if self.deeds[-1][0] == "theirs" else "theirs", "answer")
        played = len(self.deeds) // 2
        return ({"M": "mine", "T": "theirs"}[self.word[played]], "lay") if played < len(self.word) else None

    def rest(self):
        return tuple([k for k in range(len(self.mine)) if (side, k) not in self.deeds] for side in ("mine", "theirs"))

    def shown(self):
        pairs = self.pairs()
        won = sum(1 for m, t in pairs if self.mine[m] >= self.theirs[t])
        return (self.mine, self.theirs, self.word, pairs, pairs, won, self.open_card(), self.due(),
                len(self.mine) - len(pairs), self.rest())


class DuelTest(plain.Case, unittest.TestCase):

    def unchanged(self, duel, error, told, call, *args, **kwargs):
        """Check that the call raises the error and changes nothing."""
        before = copy.deepcopy(shown(duel))
        self.raises(error, told, call, *args, **kwargs)
        self.assertEqual(shown(duel), before)

    def test_a_whole_duel(self):
        duel = Duel([1, 1, 2], [1, 1, 2], "TM")
        self.assertEqual(shown(duel), ([1, 1, 2], [1, 1, 2], "TM", [], [], 0, None, ("theirs", "lay"), 3,
                                       ([0, 1, 2], [0, 1, 2])))
        self.assertIsNone(duel.lay(2))
        self.assertEqual(shown(duel), ([1, 1, 2], [1, 1, 2], "TM", [], [], 0, ("theirs", 2), ("mine", "answer"), 3,
                                       ([0, 1, 2], [0, 1])))
        self.assertIsNone(duel.answer(1))
        self.assertEqual(shown(duel), ([1, 1, 2], [1, 1, 2], "TM", [(1, 2)], [(1, 2)], 0, None, ("mine", "lay"), 2,
                                       ([0, 2], [0, 1])))
        duel.lay(0)
        self.assertEqual(duel.due, ("theirs", "answer"))
        duel.answer(0)
        self.assertEqual(shown(duel), ([1, 1, 2], [1, 1, 2], "TM", [(1, 2), (0, 0)], [(1, 2), (0, 0)], 1, None, None,
                                       1, ([2], [1])))
        self.assertIsNone(duel.call("M"))
        self.assertEqual((duel.word, duel.due), ("TMM", ("mine", "lay")))
        duel.lay(2)
        self.assertEqual(duel.rest(), ([], [1]))
        duel.answer(1)
        self.assertEqual((duel.due, duel.won, duel.rounds_left, duel.rest()), (None, 2, 0, ([], [])))
        self.assertIsNone(duel.draw(-4, 9))
        self.assertEqual((duel.mine, duel.theirs), ([1, 1, 2, -4], [1, 1, 2, 9]))
        self.assertEqual((duel.due, duel.rounds_left, duel.rest()), (None, 1, ([3], [3])))
        duel.call("T")
        duel.lay(3)
        duel.answer(3)
        self.assertEqual((duel.pairs, duel.won, duel.due), ([(1, 2), (0, 0), (2, 1), (3, 3)], 2, None))

    def test_random_plays_against_a_plain_model(self):
        source = random.Random(5)
        for mine, theirs in plain.some_hands(6, 120, 5, 0, 3):
            word = "".join(source.choice("MT") for _ in range(source.randint(0, len(mine))))
            duel, model = Duel(mine, theirs, word), Model(mine, theirs, word)
            for _ in range(25):
                self.step(duel, model, source)
                self.assertEqual(shown(duel), model.shown())

    def step(self, duel, model, source):
        """Do a random call on both, which may be wrong."""
        name = source.choice(["call", "lay", "answer", "draw", "lay", "answer", "lay", "answer"])
        due = model.due()
        if name == "call":
            letter = source.choice(["M", "T", "M", "T", "", "MT", "m"])
            if letter not in ("M", "T") or len(model.word) == len(model.mine):
                self.unchanged(duel, BadWord, {"position": len(model.word)}, duel.call, letter)
            else:
                self.assertIsNone(duel.call(letter))
                model.word += letter
        elif name == "draw":
            if model.open_card() is not None:
                self.unchanged(duel, OutOfTurn, {}, duel.draw, 1, 2)
            elif source.random() < 0.3:
                numbers = source.randint(0, 3), source.randint(0, 3)
                self.assertIsNone(duel.draw(*numbers))
                model.mine.append(numbers[0])
                model.theirs.append(numbers[1])
        else:
            index = source.randint(-1, len(model.mine))
            call = duel.lay if name == "lay" else duel.answer
            if due is None or due[1] != name:
                self.unchanged(duel, OutOfTurn, {}, call, index)
            elif index not in model.rest()[due[0] == "theirs"]:
                self.unchanged(duel, BadCard, {"side": due[0], "index": index}, call, index)
            else:
                self.assertIsNone(call(index))
                model.deeds.append((due[0], index))

    def test_creation_errors_in_their_order(self):
        self.raises(BadHands, {"mine_count": 1, "theirs_count": 0}, Duel, [1], [], "x")
        self.raises(BadHands, {"mine_count": 0, "theirs_count": 2}, Duel, [], [1, 2])
        self.raises(BadWord, {"position": 0}, Duel, [1], [1], "xMM")
        self.raises(BadWord, {"position": 2}, Duel, [1], [1], "MMm")
        self.raises(BadWord, {"position": 1}, Duel, [1], [1], "MM")
        self.raises(BadWord, {"position": 0}, Duel, [], [], "T")
        self.raises(BadWord, {"position": 40}, Duel, [1] * 40, [1] * 40, "T" * 43)

    def test_words_of_every_length(self):
        self.assertEqual([Duel([], []).word, Duel([1], [1]).word], ["", ""])
        self.assertEqual((Duel([], []).due, Duel([1], [1]).due, Duel([1], [1]).rounds_left), (None, None, 1))
        self.assertEqual(Duel([1, 2], [1, 2], "T").due, ("theirs", "lay"))
        self.assertEqual(Duel([1, 2], [1, 2], word="MT").due, ("mine", "lay"))
        self.assertEqual(Duel([1] * 40, [1] * 40, "M" * 40).rounds_left, 40)

    def test_letters(self):
        duel = Duel([1, 2], [1, 2])
        for wrong in ("", "MT", "m", "X", "TT"):
            self.unchanged(duel, BadWord, {"position": 0}, duel.call, wrong)
        duel.call("T")
        for wrong in ("", "MT", "x"):
            self.unchanged(duel, BadWord, {"position": 1}, duel.call, wrong)
        duel.lay(0)
        duel.call("M")
        self.assertEqual((duel.word, duel.due), ("TM", ("mine", "answer")))
        for wrong in ("M", "T", "", "MM"):
            self.unchanged(duel, BadWord, {"position": 2}, duel.call, wrong)
        duel.answer(0)
        duel.draw(5, 5)
        duel.call("M")
        self.assertEqual(duel.word, "TMM")
        empty = Duel([], [])
        self.unchanged(empty, BadWord, {"position": 0}, empty.call, "M")

    def test_deeds_out_of_turn(self):
        duel = Duel([1, 2], [1, 2])
        self.unchanged(duel, OutOfTurn, {}, duel.lay, 0)
        self.unchanged(duel, OutOfTurn, {}, duel.answer, 9)
        duel.call("M")
        self.unchanged(duel, OutOfTurn, {}, duel.answer, 0)
        duel.lay(1)
        self.unchanged(duel, OutOfTurn, {}, duel.lay, 0)
        self.unchanged(duel, OutOfTurn, {}, duel.lay, 9)
        self.unchanged(duel, OutOfTurn, {}, duel.draw, 0, 0)
        duel.answer(1)
        self.unchanged(duel, OutOfTurn, {}, duel.lay, 0)
        duel.call("T")
        duel.lay(0)
        duel.answer(0)
        self.unchanged(duel, OutOfTurn, {}, duel.lay, 0)
        self.unchanged(duel, OutOfTurn, {}, duel.answer, 0)

    def test_cards_that_a_side_does_not_have(self):
        duel = Duel([1, 2, 3], [1, 2, 3], "MTM")
        for index in (-1, 3, 40):
            self.unchanged(duel, BadCard, {"side": "mine", "index": index}, duel.lay, index)
        duel.lay(1)
        for index in (-1, 3):
            self.unchanged(duel, BadCard, {"side": "theirs", "index": index}, duel.answer, index)
        duel.answer(2)
        for index in (2, -3, 3):
            self.unchanged(duel, BadCard, {"side": "theirs", "index": index}, duel.lay, index)
        duel.lay(1)
        self.unchanged(duel, BadCard, {"side": "mine", "index": 1}, duel.answer, 1)
        duel.answer(0)
        self.unchanged(duel, BadCard, {"side": "mine", "index": 0}, duel.lay, 0)

    def test_late_pairs(self):
        duel = Duel([], [])
        duel.draw(3, 4)
        self.assertEqual((duel.mine, duel.theirs, duel.due, duel.rounds_left), ([3], [4], None, 1))
        duel.draw(5, 4)
        duel.call("M")
        duel.call("T")
        self.unchanged(duel, BadCard, {"side": "mine", "index": 2}, duel.lay, 2)
        duel.lay(1)
        self.unchanged(duel, OutOfTurn, {}, duel.draw, 7, 7)
        duel.answer(1)
        duel.draw(7, 7)
        self.assertEqual((duel.rest(), duel.pairs, duel.won), (([0, 2], [0, 2]), [(1, 1)], 1))
        duel.lay(2)
        duel.answer(0)
        self.assertEqual((duel.pairs, duel.won, duel.due), ([(1, 1), (0, 2)], 1, None))

    def test_lists_that_were_passed_may_change(self):
        mine, theirs = [1, 2], [1, 2]
        duel = Duel(mine, theirs, "MM")
        mine.append(7)
        theirs[0] = 9
        self.assertEqual((duel.mine, duel.theirs, duel.rounds_left), ([1, 2], [1, 2], 2))
        duel.draw(4, 4)
        self.assertEqual((mine, theirs), ([1, 2, 7], [9, 2]))
        duel.lay(0)
        duel.answer(0)
        self.assertEqual(duel.won, 1)

    def test_lists_that_are_returned_may_change(self):
        duel = Duel([1, 2], [1, 2], "MM")
        for told in (duel.rest()[0], duel.rest()[1], duel.row(), list(duel)):
            told.append(99)
            told.reverse()
        self.assertEqual((duel.rest(), duel.row(), list(duel)), (([0, 1], [0, 1]), plain.plain_row([1, 2], [1, 2]), []))
        first, second = duel.rest(), duel.rest()
        self.assertEqual(len({id(part) for part in (*first, *second)}), 4)

    def test_iteration_yields_the_pairs(self):
        duel = Duel([1, 2], [1, 2], "MM")
        self.assertEqual(list(duel), [])
        duel.lay(1)
        duel.answer(0)
        self.assertEqual([pair for pair in duel], [(1, 0)])
        self.assertIsInstance(list(duel)[0], tuple)


class ValueTest(plain.Case, unittest.TestCase):

    def play(self, duel, pairs):
        for m, t in pairs:
            first, second = (m, t) if duel.due[0] == "mine" else (t, m)
            duel.lay(first)
            duel.answer(second)

    def test_row_and_value_of_what_is_left(self):
        for mine, theirs in plain.some_hands(9, 60, 5, 0, 3):
            n = len(mine)
            pairing = plain.shuffled(n, n)
            for played in range(n + 1):
                duel = Duel(mine, theirs, ("MT" * 3)[:n])
                self.play(duel, [(m, pairing[m]) for m in range(played)])
                left = [mine[m] for m in range(played, n)]
                their_left = [theirs[t] for t in range(n) if t not in pairing[:played]]
                won = sum(plain.won(mine, theirs, m, pairing[m]) for m in range(played))
                self.assertEqual(duel.row(), [entry + won for entry in plain.plain_row(left, their_left)])
                for letters in plain.all_words(n - played):
                    for many in ("mine", "theirs"):
                        expected = won + plain.played(left, their_left, letters, many)
                        self.assertEqual(duel.value(letters, many=many), expected)
                    self.assertEqual(duel.value(letters), duel.value(letters, many="mine"))

    def test_the_value_counts_the_won_pairs_after_the_last_round(self):
        duel = Duel([1, 2], [1, 2], "MM")
        self.play(duel, [(0, 0), (1, 1)])
        self.assertEqual([duel.value(""), duel.value("", many="theirs"), duel.row()], [2, 2, []])
        duel.draw(0, 5)
        self.assertEqual([duel.value("M"), duel.row()], [2, [1]])
        self.assertEqual([Duel([], []).value(""), Duel([], []).row()], [0, []])

    def test_the_letters_are_independent_of_the_word(self):
        duel = Duel([1, 1, 2], [1, 1, 2], "MMT")
        self.assertEqual([duel.value("TTM"), duel.value("MMT"), duel.value("TTM", many="theirs")], [3, 2, 2])

    def test_not_while_a_card_is_open(self):
        duel = Duel([1, 2], [1, 2], "MM")
        duel.lay(0)
        for letters in ("MM", "M", "x", "", "MMM"):
            self.raises(OutOfTurn, {}, duel.value, letters)
        self.raises(OutOfTurn, {}, duel.row)
        duel.answer(1)
        self.assertEqual(duel.row(), [0])

    def test_wrong_letters(self):
        duel = Duel([1, 2], [1, 2], "MM")
        self.raises(BadWord, {"position": 1}, duel.value, "M")
        self.raises(BadWord, {"position": 2}, duel.value, "MTM")
        self.raises(BadWord, {"position": 1}, duel.value, "Mx")
        self.raises(BadWord, {"position": 0}, duel.value, "")
        self.play(duel, [(0, 0)])
        self.raises(BadWord, {"position": 1}, duel.value, "MM", many="theirs")

    def test_all_duels_of_two_cards_to_their_end(self):
        for mine, theirs in plain.small_hands(2):
            for word, order in itertools.product(plain.all_words(2), itertools.permutations(range(2))):
                duel = Duel(mine, theirs, word)
                self.play(duel, list(enumerate(order)))
                self.assertEqual(duel.won, plain.count_won(mine, theirs, list(order)))
                self.assertEqual(duel.value(""), duel.won)


if __name__ == "__main__":
    unittest.main()
