"""climbrow.stewards: points 46, 47 and the interface."""

import copy
import itertools
import random
import unittest

import plain
from climbrow.errors import BadCard, BadHands, BadWord, OutOfTurn
from climbrow.seasons import season_value
from climbrow.spans import span_of
from climbrow.stewards import Steward
from plainseason import OTHER, PlainSeason, all_letters, some_seasons

SIDES = ("mine", "theirs")


class Watched:
    """A steward beside a plain season, which tells what is due."""

    def __init__(self, told, side):
        mine, theirs, before, takebacks, after, layer = told
        self.told, self.side = told, side
        self.model = PlainSeason(mine, theirs, before, takebacks, after, layer)
        self.state = self.model.start
        self.steward = Steward(mine, theirs, before, takebacks, after, side=side, layer=layer)

    def twin(self):
        found = copy.copy(self)
        found.steward = copy.deepcopy(self.steward)
        return found

    def value(self):
        mine, theirs, before, takebacks, after, layer = self.told
        return season_value(span_of(mine, theirs), before, takebacks, after, layer=layer)

    def due(self):
        return self.model.due(self.state)

    def deeds(self):
        return self.model.deeds(self.state)

    def do(self, deed):
        self.state = self.model.after(self.state, deed)
        return self.steward.saw(deed)

    def result(self):
        return self.model.won(self.state)


class StewardCase(plain.Case, unittest.TestCase):

    def step(self, watched, deed):
        """Do a deed; the assured number never gets worse for the steward's side."""
        before = watched.steward.assured
        self.assertIsNone(watched.do(deed))
        better = 1 if watched.side == "mine" else -1
        self.assertGreaterEqual((watched.steward.assured - before) * better, 0, (watched.told, watched.side, deed))

    def own_deed(self, watched):
        """What the steward does, which must be due."""
        deed = watched.steward.move()
        self.assertIn(deed, watched.deeds(), (watched.told, watched.side, watched.state))
        self.assertIsInstance(deed, tuple)
        return deed

    def at_the_end(self, watched):
        self.assertEqual(watched.steward.assured, watched.result(), (watched.told, watched.side))
        self.raises(OutOfTurn, {}, watched.steward.move)

    def all_plays(self, watched):
        """Go through all plays of the other side; return how many ends there are."""
        while watched.due() is not None and watched.due()[0] == watched.side:
            self.step(watched, self.own_deed(watched))
        if watched.due() is None:
            self.at_the_end(watched)
            return 1
        ends = 0
        for deed in watched.deeds():
            twin = watched.twin()
            self.step(twin, deed)
            ends += self.all_plays(twin)
        return ends

    def start(self, told, side):
        watched = Watched(told, side)
        self.assertEqual(watched.steward.assured, watched.value())
        self.assertEqual(watched.steward.side, side)
        return watched


class AllPlaysTest(StewardCase):

    def test_no_card_and_one_card(self):
        for mine, theirs in (([], []), ([5], [5]), ([1], [2])):
            for before, after in itertools.product(all_letters(2), repeat=2):
                for takebacks, layer, side in itertools.product((0, 2), SIDES, SIDES):
                    self.all_plays(self.start((mine, theirs, before, takebacks, after, layer), side))

    def test_two_cards(self):
        for mine, theirs in plain.all_orders(2) + [([1, 1], [1, 1])]:
            for before, after in itertools.product(("", "M", "T"), ("", "M", "T", "MT")):
                for takebacks, layer, side in itertools.product((0, 1, 3), SIDES, SIDES):
                    self.all_plays(self.start((mine, theirs, before, takebacks, after, layer), side))

    def test_three_cards(self):
        for mine, theirs in [([2, 4, 6], [1, 3, 5]), ([4, 1, 2], [3, 1, 2])] + plain.all_orders(3)[::6]:
            for takebacks, layer, side in itertools.product((0, 1, 2), SIDES, SIDES):
                for before, after in (("", ""), ("", "TM"), ("", "MTT"), ("T", ""), ("M", "T"), ("TM", "MT")):
                    self.all_plays(self.start((mine, theirs, before, takebacks, after, layer), side))

    def test_four_cards(self):
        for mine, theirs in (([2, 4, 5, 7], [1, 3, 6, 8]), ([3, 5, 1, 8], [2, 4, 6, 7])):
            for takebacks, layer, side in itertools.product((0, 1, 2), SIDES, SIDES):
                for before, after in (("", ""), ("M", ""), ("", "T")):
                    self.all_plays(self.start((mine, theirs, before, takebacks, after, layer), side))


class RandomPlaysTest(StewardCase):

    def play(self, watched, choose):
        while watched.due() is not None:
            deed = self.own_deed(watched) if watched.due()[0] == watched.side else choose(watched)
            self.step(watched, deed)
        self.at_the_end(watched)

    def test_longer_seasons(self):
        source = random.Random(71)
        for told in some_seasons(72, 900, 8, letters=6, takebacks=5):
            for side in SIDES:
                self.play(self.start(told, side), lambda watched: source.choice(watched.deeds()))

    def test_against_greedy_plays(self):
        source = random.Random(73)

        def greedy(watched):
            better = 1 if watched.side == "mine" else -1
            deeds = source.sample(watched.deeds(), min(len(watched.deeds()), 8))
            return min(deeds, key=lambda deed: watched.model.won(watched.model.after(watched.state, deed)) * better)
        for told in some_seasons(74, 600, 7, letters=5, takebacks=4):
            for side in SIDES:
                self.play(self.start(told, side), greedy)

    def test_40_cards(self):
        source = random.Random(75)
        hands = [source.randint(0, 30) for _ in range(40)], [source.randint(0, 30) for _ in range(40)]
        for layer, side in itertools.product(SIDES, SIDES):
            told = (*hands, "MTTM", 7, "TTMT", layer)
            self.play(self.start(told, side), lambda watched: source.choice(watched.deeds()))

    def test_words_of_40_letters_and_40_take_backs(self):
        source = random.Random(76)
        for layer, side in itertools.product(SIDES, SIDES):
            told = ([2, 4, 6], [1, 3, 5], "TM" * 20, 40, "TM" * 20, layer)
            self.play(self.start(told, side), lambda watched: source.choice(watched.deeds()))

    def test_two_stewards_meet_at_the_value(self):
        for told in some_seasons(77, 300, 8, letters=5, takebacks=5):
            both = {side: self.start(told, side) for side in SIDES}
            while both["mine"].due() is not None:
                deed = self.own_deed(both[both["mine"].due()[0]])
                for watched in both.values():
                    self.step(watched, deed)
                    self.assertEqual(watched.steward.assured, watched.value())
            self.assertEqual(both["mine"].result(), both["mine"].value())


class OtherDeedsTest(StewardCase):

    def test_a_deed_is_due_also_after_another_deed_of_its_side(self):
        source = random.Random(78)
        for told in some_seasons(79, 400, 6, letters=5, takebacks=4):
            for side in SIDES:
                watched = self.start(told, side)
                while watched.due() is not None:
                    deed = self.own_deed(watched) if watched.due()[0] == side else None
                    if deed is None or source.random() < 0.5:
                        deed = source.choice(watched.deeds())
                    watched.do(deed)
                self.at_the_end(watched)

    def test_all_deeds_of_both_sides(self):
        for layer, side in itertools.product(SIDES, SIDES):
            for before, takebacks, after in (("M", 1, "T"), ("T", 0, "M"), ("", 2, "MT")):
                waiting = [self.start(([2, 3], [1, 3], before, takebacks, after, layer), side)]
                while waiting:
                    watched = waiting.pop()
                    if watched.due() is None:
                        self.at_the_end(watched)
                        continue
                    if watched.due()[0] == side:
                        self.own_deed(watched)
                    for deed in watched.deeds():
                        twin = watched.twin()
                        twin.do(deed)
                        waiting.append(twin)


class CallsTest(StewardCase):

    def test_known_plays(self):
        steward = Steward([1, 1, 2], [1, 1, 2], "M", 1, "", side="mine")
        self.assertEqual((steward.side, steward.assured, steward.move()), ("mine", 3, ("bind", 2, 2)))
        steward = Steward([1, 1, 2], [1, 1, 2], "T", 0, "M", side="theirs")
        self.assertEqual((steward.side, steward.assured), ("theirs", 2))
        steward.saw(("pass",))
        self.assertEqual(steward.assured, 3)
        self.raises(OutOfTurn, {}, steward.move)
        self.assertEqual(Steward([1], [1], "M", 0, "", side="mine").move(), ("pass",))
        self.assertEqual(Steward([1], [1], "", 0, "", side="mine").move(), ("lay", 0))
        self.assertEqual(Steward([], [], "", 0, "MM", side="mine").move(), ("pass",))

    def test_mine_is_the_layer_if_nothing_is_said(self):
        mine, theirs = [2, 4, 6], [1, 3, 5]
        steward = Steward(mine, theirs, "", 1, "", side="mine")
        self.assertEqual(steward.move()[0], "lay")
        self.assertEqual(steward.assured, season_value(span_of(mine, theirs), "", 1, ""))
        self.raises(OutOfTurn, {}, Steward(mine, theirs, "", 1, "", side="theirs").move)
        self.raises(OutOfTurn, {}, Steward(mine, theirs, "", 1, "", side="mine", layer="theirs").move)

    def test_move_changes_nothing(self):
        for told in some_seasons(80, 60, 5):
            for side in SIDES:
                watched, same = self.start(told, side), self.start(told, side)
                while watched.due() is not None:
                    if watched.due()[0] == side:
                        deed = watched.steward.move()
                        self.assertEqual([watched.steward.move(), watched.steward.move()], [deed, deed])
                        self.assertEqual(deed, same.steward.move())
                    else:
                        self.raises(OutOfTurn, {}, watched.steward.move)
                        deed = watched.deeds()[-1]
                    watched.do(deed)
                    same.do(deed)
                    self.assertEqual(watched.steward.assured, same.steward.assured)

    def test_creation_errors_in_their_order(self):
        for side in SIDES:
            self.raises(BadHands, {"mine_count": 2, "theirs_count": 1}, Steward, [1, 2], [1], "x", 0, "y", side=side)
            self.raises(BadWord, {"position": 1}, Steward, [1], [1], "Mx", 0, "yT", side=side)
            self.raises(BadWord, {"position": 0}, Steward, [1], [1], "MT", 0, "yT", side=side, layer="theirs")

    def wrong(self, steward, error, told, deed):
        """A wrong deed raises what the season raises, and changes nothing."""
        def shown():
            try:
                return steward.assured, steward.move()
            except OutOfTurn:
                return steward.assured, None
        before = shown()
        self.raises(error, told, steward.saw, deed)
        self.assertEqual(shown(), before)

    def test_wrong_deeds(self):
        for side in SIDES:
            steward = Steward([1, 2, 3], [1, 2, 3], "M", 0, "T", side=side)
            for deed in (("lay", 0), ("answer", 9), ("keep",), ("take_back", 0), ("exchange", 0, 1)):
                self.wrong(steward, OutOfTurn, {}, deed)
            self.wrong(steward, BadCard, {"side": "mine", "index": 3}, ("bind", 3, 9))
            self.wrong(steward, BadCard, {"side": "theirs", "index": -1}, ("bind", 0, -1))
            self.assertIsNone(steward.saw(("bind", 0, 1)))
            self.wrong(steward, OutOfTurn, {}, ("pass",))
            self.wrong(steward, OutOfTurn, {}, ("bind", 1, 2))
            self.wrong(steward, BadCard, {"side": "mine", "index": 0}, ("lay", 0))
            steward.saw(("lay", 1))
            self.wrong(steward, BadCard, {"side": "theirs", "index": 1}, ("answer", 1))
            steward.saw(("answer", 0))
            self.wrong(steward, OutOfTurn, {}, ("take_back", 2))
            for deed in (("keep",), ("lay", 2), ("answer", 2), ("keep",)):
                steward.saw(deed)
            self.wrong(steward, BadCard, {"side": "mine", "index": 0}, ("exchange", 0, 1))
            self.wrong(steward, BadCard, {"side": "mine", "index": 2}, ("exchange", 2, 2))
            steward.saw(("exchange", 2, 1))
            self.wrong(steward, OutOfTurn, {}, ("pass",))
            self.assertEqual(steward.assured, 1)

    def test_a_wrong_take_back(self):
        steward = Steward([1, 2], [1, 2], "", 2, "", side="mine", layer="theirs")
        steward.saw(("lay", 0))
        steward.saw(("answer", 0))
        self.wrong(steward, BadCard, {"side": "theirs", "index": 0}, ("take_back", 0))
        steward.saw(("take_back", 1))
        self.wrong(steward, BadCard, {"side": "theirs", "index": 1}, ("lay", 1))

    def test_lists_that_were_passed_may_change(self):
        mine, theirs = [2, 4, 6], [1, 3, 5]
        told = (mine, theirs, "M", 1, "T", "mine")
        same = self.start(copy.deepcopy(told), "mine")
        steward = Steward(*told[:5], side="mine", layer="mine")
        mine.clear()
        theirs[:] = [9, 9, 9]
        while same.due() is not None:
            deed = same.steward.move() if same.due()[0] == "mine" else same.deeds()[0]
            if same.due()[0] == "mine":
                self.assertEqual(steward.move(), deed)
            steward.saw(deed)
            same.do(deed)
            self.assertEqual(steward.assured, same.steward.assured)

    def test_the_other_side_is_not_due(self):
        for side in SIDES:
            letter = "T" if side == "mine" else "M"
            steward = Steward([1, 2], [1, 2], letter, 1, "", side=side, layer=OTHER[side])
            self.raises(OutOfTurn, {}, steward.move)
            steward.saw(("pass",))
            self.raises(OutOfTurn, {}, steward.move)
            steward.saw(("lay", 1))
            self.assertEqual(steward.move()[0], "answer")


if __name__ == "__main__":
    unittest.main()
