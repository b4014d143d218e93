"""climbrow.seasons: points 43 to 45 and the interface."""

import copy
import itertools
import random
import unittest

import plain
from climbrow.errors import BadCard, BadHands, BadWord, OutOfTurn
from climbrow.seasons import Season, season_run, season_value
from climbrow.spans import Span, span_of
from plainseason import PlainSeason, all_letters, some_seasons

SIDES = ("mine", "theirs")
DEEDS = ("bind", "pass_turn", "lay", "answer", "keep", "take_back", "exchange")


def plain_run(lo, hi, before, takebacks, after, layer):
    """Point 44, sentence by sentence."""
    bounds = [(lo, hi)]
    for letter in before:
        if lo < hi and letter == "M":
            lo += 1
        elif lo < hi:
            hi -= 1
        bounds.append((lo, hi))
    value = sorted([hi, lo + takebacks])[0] if layer == "mine" else sorted([lo, hi - takebacks])[1]
    values = [value]
    for letter in after:
        if letter == "M" and value < hi:
            value += 1
        if letter == "T" and value > lo:
            value -= 1
        values.append(value)
    return bounds, values


def shown(season):
    """All that a season tells."""
    return (season.bound, season.made, season.takebacks_left, season.part, season.due, season.won_count())


def do(season, deed):
    """Do a deed that is told as point 46 tells it."""
    return getattr(season, "pass_turn" if deed[0] == "pass" else deed[0])(*deed[1:])


class RunTest(plain.Case, unittest.TestCase):

    def test_against_the_rules_said_plainly(self):
        for least, width in itertools.product((0, 2), range(5)):
            for before, after, layer in itertools.product(all_letters(3), all_letters(3), SIDES):
                for takebacks in (0, 1, 2, 4, 40):
                    told = (least, least + width, before, takebacks, after, layer)
                    span = Span(least, least + width)
                    expected = plain_run(*told)
                    self.assertEqual(season_run(span, before, takebacks, after, layer=layer), expected, told)
                    self.assertEqual(season_value(span, before, takebacks, after, layer=layer), expected[1][-1])

    def test_known_answers(self):
        self.assertEqual(season_run(Span(1, 4), "T", 1, "M"), ([(1, 4), (1, 3)], [2, 3]))
        self.assertEqual(season_run(Span(1, 4), "MM", 0, "", layer="theirs"), ([(1, 4), (2, 4), (3, 4)], [4]))
        self.assertEqual(season_run(Span(0, 1), "TTM", 5, "TM"), ([(0, 1), (0, 0), (0, 0), (0, 0)], [0, 0, 0]))
        self.assertEqual(season_run(Span(0, 0), "", 0, ""), ([(0, 0)], [0]))
        self.assertEqual(season_value(Span(0, 40), "M" * 40, 0, "T" * 40), 40)
        self.assertEqual(season_value(Span(0, 40), "", 10, "T" * 5), 5)
        self.assertEqual(season_value(Span(0, 40), "", 10, "T" * 5, layer="theirs"), 25)

    def test_mine_is_the_layer_if_nothing_is_said(self):
        for takebacks in (0, 1, 2, 3):
            told = (Span(1, 3), "M", takebacks, "MT")
            self.assertEqual(season_run(*told), season_run(*told, layer="mine"))
            self.assertEqual(season_value(*told), season_value(*told, layer="mine"))
        self.assertNotEqual(season_value(Span(0, 3), "", 0, ""), season_value(Span(0, 3), "", 0, "", layer="theirs"))

    def test_words_of_40_letters(self):
        before, values = season_run(Span(0, 2), "MT" * 20, 1, "TM" * 20)
        self.assertEqual((len(before), len(values)), (41, 41))
        self.assertEqual((before[1], before[-1], values[-1]), ((1, 2), (1, 1), 1))

    def test_wrong_letters_in_their_order(self):
        for call in (season_run, season_value):
            self.raises(BadWord, {"position": 2}, call, Span(0, 1), "MTx", 1, "y")
            self.raises(BadWord, {"position": 0}, call, Span(0, 1), "m", 1, "My")
            self.raises(BadWord, {"position": 1}, call, Span(0, 1), "MT", 1, "T ", layer="theirs")

    def test_returned_lists_may_be_modified(self):
        span = Span(1, 4)
        bounds, values = season_run(span, "T", 1, "M")
        bounds.clear()
        values.append(7)
        self.assertEqual(season_run(span, "T", 1, "M"), ([(1, 4), (1, 3)], [2, 3]))
        self.assertEqual((span.least, span.most), (1, 4))


class ValueTest(plain.Case, unittest.TestCase):

    def check(self, mine, theirs, before, takebacks, after, layer):
        """The season's value is what all plays of both sides bring about."""
        model = PlainSeason(mine, theirs, before, takebacks, after, layer)
        self.assertEqual(season_value(span_of(mine, theirs), before, takebacks, after, layer=layer),
                         model.value(model.start), (mine, theirs, before, takebacks, after, layer))

    def test_what_both_sides_can_hold_to_with_few_cards(self):
        hands = [([], []), ([5], [5]), ([1], [2])] + plain.all_orders(2)
        for mine, theirs in hands:
            for before, after in itertools.product(all_letters(2), repeat=2):
                for takebacks, layer in itertools.product(range(3), SIDES):
                    self.check(mine, theirs, before, takebacks, after, layer)

    def test_what_both_sides_can_hold_to_with_three_cards(self):
        for mine, theirs, before, takebacks, after, layer in some_seasons(61, 700, 3):
            self.check(mine, theirs, before, takebacks, after, layer)

    def test_hands_of_every_width_of_three_cards(self):
        for mine, theirs in (([1, 3, 5], [2, 4, 6]), ([2, 4, 6], [1, 3, 5]), ([4, 1, 2], [3, 1, 2])):
            for takebacks, layer, after in itertools.product((0, 1, 2), SIDES, ("", "M", "T", "MT")):
                self.check(mine, theirs, "", takebacks, after, layer)

    def test_four_cards_with_turns(self):
        for told in some_seasons(64, 40, 4, letters=2):
            self.check(*told)

    def test_four_cards(self):
        for takebacks, layer in itertools.product((0, 1, 3), SIDES):
            self.check([2, 4, 6, 8], [1, 3, 5, 7], "", takebacks, "", layer)
            self.check([1, 3, 5, 7], [2, 4, 6, 8], "M", takebacks, "", layer)
            self.check([2, 4, 5, 7], [1, 3, 6, 8], "", takebacks, "TM", layer)


class SeasonTest(plain.Case, unittest.TestCase):

    def unchanged(self, season, error, told, call, *args):
        """Check that the call raises the error and changes nothing."""
        before = copy.deepcopy(shown(season))
        self.raises(error, told, call, *args)
        self.assertEqual(shown(season), before)

    def only_due(self, season, *due):
        """Check that all other deeds raise OutOfTurn, whatever cards they name."""
        for name in DEEDS:
            if name not in due:
                count = {"bind": 2, "exchange": 2, "pass_turn": 0, "keep": 0}.get(name, 1)
                for card in (0, -1, 77):
                    self.unchanged(season, OutOfTurn, {}, getattr(season, name), *([card] * count))

    def test_a_whole_season(self):
        season = Season([1, 3, 5, 7], [2, 4, 6, 8], "MT", 1, "TM")
        self.assertEqual(shown(season), ([], [], 1, "before", ("mine", "bind"), 0))
        self.only_due(season, "bind", "pass_turn")
        self.assertIsNone(season.bind(3, 1))
        self.assertEqual(shown(season), ([(3, 1)], [], 1, "before", ("theirs", "bind"), 1))
        self.assertIsNone(season.pass_turn())
        self.assertEqual(shown(season), ([(3, 1)], [], 1, "middle", ("mine", "lay"), 1))
        self.only_due(season, "lay")
        self.assertIsNone(season.lay(2))
        self.assertEqual(shown(season), ([(3, 1)], [], 1, "middle", ("theirs", "answer"), 1))
        self.only_due(season, "answer")
        self.assertIsNone(season.answer(0))
        self.assertEqual(shown(season), ([(3, 1)], [], 1, "middle", ("mine", "keep"), 1))
        self.only_due(season, "keep", "take_back")
        self.assertIsNone(season.take_back(1))
        self.assertEqual(shown(season), ([(3, 1)], [(1, 0)], 0, "middle", ("mine", "lay"), 2))
        season.lay(2)
        season.answer(3)
        self.assertIsNone(season.keep())
        self.assertEqual(shown(season), ([(3, 1)], [(1, 0), (2, 3)], 0, "middle", ("mine", "lay"), 2))
        season.lay(0)
        self.assertEqual((season.part, season.due), ("middle", ("theirs", "answer")))
        season.answer(2)
        season.keep()
        self.assertEqual(shown(season), ([(3, 1)], [(0, 2), (1, 0), (2, 3)], 0, "after", ("theirs", "exchange"), 2))
        self.only_due(season, "exchange", "pass_turn")
        self.assertIsNone(season.exchange(1, 2))
        self.assertEqual(shown(season), ([(3, 1)], [(0, 2), (1, 3), (2, 0)], 0, "after", ("mine", "exchange"), 2))
        season.exchange(2, 0)
        self.assertEqual(shown(season), ([(3, 1)], [(0, 0), (1, 3), (2, 2)], 0, "over", None, 1))
        self.only_due(season)

    def test_random_plays_against_a_plain_model(self):
        source = random.Random(62)
        for mine, theirs, before, takebacks, after, layer in some_seasons(63, 250, 6, letters=4):
            model = PlainSeason(mine, theirs, before, takebacks, after, layer)
            state = model.start
            season = Season(mine, theirs, before, takebacks, after, layer=layer)
            while True:
                self.assertEqual(shown(season), (list(state.bound), list(state.made), state.takebacks,
                                                 model.part(state), model.due(state), model.won(state)))
                if model.due(state) is None:
                    break
                self.wrong_deed(season, model, state, source)
                deed = source.choice(model.deeds(state))
                self.assertIsNone(do(season, deed))
                state = model.after(state, deed)

    def wrong_deed(self, season, model, state, source):
        """Try a random deed; if it is wrong, it raises what point 45 says and changes nothing."""
        name = source.choice(DEEDS)
        count = {"bind": 2, "exchange": 2, "pass_turn": 0, "keep": 0}.get(name, 1)
        cards = [source.randint(-1, len(model.mine)) for _ in range(count)]
        if ("pass" if name == "pass_turn" else name, *cards) in model.deeds(state):
            return
        side, due = model.due(state)
        allowed = {"bind": ("bind",), "exchange": ("exchange",), "keep": ("keep", "take_back")}.get(due, (due,))
        if name not in allowed or (name == "take_back" and not state.takebacks):
            self.unchanged(season, OutOfTurn, {}, getattr(season, name), *cards)
            return
        if name == "bind":
            wrong = [(whose, k) for whose, k in zip(SIDES, cards) if k not in model.hand(state, whose)]
        elif name == "exchange":
            made = [m for m, _ in state.made]
            wrong = [("mine", k) for k in cards if k not in made] or [("mine", cards[1])]
        else:
            wrong = [(side, cards[0])]
        self.unchanged(season, BadCard, {"side": wrong[0][0], "index": wrong[0][1]}, getattr(season, name), *cards)

    def test_parts_that_are_skipped(self):
        self.assertEqual(shown(Season([], [], "", 0, "")), ([], [], 0, "over", None, 0))
        self.assertEqual(Season([1], [1], "", 0, "").due, ("mine", "lay"))
        self.assertEqual(Season([1], [1], "", 0, "", layer="theirs").due, ("theirs", "lay"))
        self.assertEqual(Season([], [], "", 0, "T").due, ("theirs", "exchange"))
        self.assertEqual(Season([], [], "T", 0, "").due, ("theirs", "bind"))

    def test_all_cards_bound_before_the_middle_part(self):
        season = Season([1, 2], [1, 2], "MTMT", 3, "M", layer="theirs")
        season.bind(0, 1)
        season.bind(1, 0)
        self.assertEqual(shown(season), ([(0, 1), (1, 0)], [], 3, "before", ("mine", "bind"), 1))
        self.unchanged(season, BadCard, {"side": "mine", "index": 0}, season.bind, 0, 0)
        season.pass_turn()
        season.pass_turn()
        self.assertEqual(shown(season), ([(0, 1), (1, 0)], [], 3, "after", ("mine", "exchange"), 1))
        self.unchanged(season, BadCard, {"side": "mine", "index": 0}, season.exchange, 0, 1)
        season.pass_turn()
        self.assertEqual((season.part, season.due, season.won_count()), ("over", None, 1))
        season = Season([1], [1], "T", 3, "")
        season.bind(0, 0)
        self.assertEqual((season.part, season.due, season.won_count()), ("over", None, 1))

    def test_words_of_40_letters_with_few_cards(self):
        season = Season([1], [2], "MT" * 20, 40, "T" * 40)
        for turn in range(40):
            self.assertEqual(season.due, (SIDES[turn % 2], "bind"))
            season.pass_turn()
        season.lay(0)
        season.answer(0)
        season.keep()
        for _ in range(40):
            self.assertEqual(season.due, ("theirs", "exchange"))
            self.unchanged(season, BadCard, {"side": "mine", "index": 0}, season.exchange, 0, 0)
            season.pass_turn()
        self.assertEqual((season.part, season.takebacks_left), ("over", 40))

    def test_take_backs(self):
        season = Season([1, 2, 3], [1, 2, 3], "", 1, "")
        season.lay(0)
        season.answer(2)
        for gone in (0, 3, -1):
            self.unchanged(season, BadCard, {"side": "mine", "index": gone}, season.take_back, gone)
        season.take_back(2)
        season.lay(0)
        season.answer(0)
        self.unchanged(season, OutOfTurn, {}, season.take_back, 1)
        self.unchanged(season, OutOfTurn, {}, season.take_back, 0)
        season.keep()
        self.assertEqual((season.made, season.takebacks_left, season.due), ([(0, 0), (2, 2)], 0, ("mine", "lay")))

    def test_a_take_back_with_no_other_card_in_hand(self):
        season = Season([1], [1], "", 5, "", layer="theirs")
        season.lay(0)
        self.assertEqual((season.part, season.due), ("middle", ("mine", "answer")))
        season.answer(0)
        self.assertEqual((season.part, season.due), ("middle", ("theirs", "keep")))
        for index in (0, 1):
            self.unchanged(season, BadCard, {"side": "theirs", "index": index}, season.take_back, index)
        season.keep()
        self.assertEqual((season.part, season.takebacks_left, season.made), ("over", 5, [(0, 0)]))

    def test_theirs_takes_back(self):
        season = Season([1, 2], [1, 2], "", 2, "", layer="theirs")
        season.lay(1)
        season.answer(0)
        season.take_back(0)
        self.assertEqual(shown(season), ([], [(0, 0)], 1, "middle", ("theirs", "lay"), 1))
        self.unchanged(season, BadCard, {"side": "theirs", "index": 0}, season.lay, 0)
        season.lay(1)
        self.unchanged(season, BadCard, {"side": "mine", "index": 0}, season.answer, 0)
        season.answer(1)
        season.keep()
        self.assertEqual((season.made, season.won_count()), ([(0, 0), (1, 1)], 2))

    def test_cards_that_a_side_does_not_have(self):
        season = Season([1, 2, 3], [1, 2, 3], "MT", 1, "M")
        season.bind(1, 2)
        for m, t in ((1, 0), (3, 9), (-1, 2)):
            self.unchanged(season, BadCard, {"side": "mine", "index": m}, season.bind, m, t)
        for m, t in ((0, 2), (2, 3), (0, -1)):
            self.unchanged(season, BadCard, {"side": "theirs", "index": t}, season.bind, m, t)
        season.pass_turn()
        for index in (1, 3, -1):
            self.unchanged(season, BadCard, {"side": "mine", "index": index}, season.lay, index)
        season.lay(0)
        for index in (2, 3, -1):
            self.unchanged(season, BadCard, {"side": "theirs", "index": index}, season.answer, index)
        season.answer(0)
        for index in (0, 1):
            self.unchanged(season, BadCard, {"side": "mine", "index": index}, season.take_back, index)
        season.keep()
        self.unchanged(season, BadCard, {"side": "mine", "index": 0}, season.lay, 0)
        season.lay(2)
        self.unchanged(season, BadCard, {"side": "theirs", "index": 0}, season.answer, 0)

    def test_wrong_exchanges(self):
        season = Season([1, 2, 3], [1, 2, 3], "M", 0, "MM")
        season.bind(1, 1)
        for m in (0, 2):
            season.lay(m)
            season.answer(m)
            season.keep()
        for a, b in ((1, 0), (1, 1), (3, 1), (-1, -1)):
            self.unchanged(season, BadCard, {"side": "mine", "index": a}, season.exchange, a, b)
        for a, b in ((0, 1), (0, 0), (2, 2), (2, 5)):
            self.unchanged(season, BadCard, {"side": "mine", "index": b}, season.exchange, a, b)
        season.exchange(2, 0)
        self.assertEqual((season.bound, season.made), ([(1, 1)], [(0, 2), (2, 0)]))
        season.exchange(0, 2)
        self.assertEqual((season.made, season.part), ([(0, 0), (2, 2)], "over"))

    def test_creation_errors_in_their_order(self):
        self.raises(BadHands, {"mine_count": 1, "theirs_count": 0}, Season, [1], [], "x", 0, "y")
        self.raises(BadWord, {"position": 1}, Season, [1], [1], "Mx", 0, "y")
        self.raises(BadWord, {"position": 0}, Season, [1], [1], "MT", 0, "y", layer="theirs")

    def test_lists_that_were_passed_may_change(self):
        mine, theirs = [1, 2], [1, 2]
        season = Season(mine, theirs, "M", 0, "")
        mine.clear()
        theirs[0] = 9
        season.bind(0, 0)
        self.assertEqual((season.won_count(), season.due), (1, ("mine", "lay")))
        season.lay(1)
        season.answer(1)
        season.keep()
        self.assertEqual((season.won_count(), mine, theirs), (2, [], [9, 2]))


if __name__ == "__main__":
    unittest.main()
