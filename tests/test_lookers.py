"""climbrow.lookers: points 68 to 74 and the interface."""

import copy
import itertools
import random
import unittest

import plain
import plainpapers
from climbrow.errors import BadCard, BadHands
from climbrow.lookers import look_reserve, look_row, look_span, look_telling, look_value, look_winners
from climbrow.papers import reserve_paper, row_paper, span_paper, telling_paper, value_paper, winners_paper

SIDES = ("mine", "theirs")
HANDS = ([([], []), ([5], [5]), ([4], [5]), ([1, 1, 2], [1, 1, 2])] + plain.small_hands(2, 2)[::3] + plain.all_orders(3)[::4]
         + plain.all_orders(4)[::23])
# For each looker: the words of the document, and the paper that the program makes.
LOOKERS = [
    (look_span, plainpapers.span_is_shown, span_paper),
    (look_row, plainpapers.row_is_shown, row_paper),
    (look_reserve, plainpapers.reserve_is_shown, reserve_paper),
]


def some_pairing(source, n):
    return source.sample(range(n), n)


def some_place(source, n):
    return source.randint(-1, 2 * n + 1)


class Looking(plain.Case):
    """Mixed into a TestCase: a looker is asked and its answer compared with the words of the document."""

    def look(self, looker, words, hands, paper, told=None):
        """Return the answer, which must be that of the words; the arguments stay as they were."""
        given, named = copy.deepcopy((*hands, paper)), copy.deepcopy(told or {})
        found = looker(*given, **named)
        expected = words(*hands, paper, **named)
        self.assertIs(found, bool(expected), (looker.__name__, hands, paper, told))
        self.assertEqual((given, named), ((*hands, paper), told or {}))
        return found


class ChangedPapersTest(Looking, unittest.TestCase):

    def check(self, looker, words, hands, paper, told=None):
        """The paper is accepted, and each changed one is exactly if the words say so; return what was said of these."""
        self.assertIs(self.look(looker, words, hands, paper, told), True)
        said = [self.look(looker, words, hands, other, told) for other in plainpapers.changed(paper)]
        if len(hands[0]) < 4:
            said += [self.look(looker, words, hands, other, told) for other in plainpapers.changed_twice(paper)[::11]]
        return set(said)

    def test_papers_of_spans_rows_and_reserves(self):
        for looker, words, make in LOOKERS:
            said = set()
            for mine, theirs in HANDS:
                said |= self.check(looker, words, (mine, theirs), make(mine, theirs))
            self.assertIn(False, said)

    def test_papers_of_values(self):
        for mine, theirs in HANDS:
            for many in SIDES:
                for word in plain.all_words(len(mine))[::3]:
                    said = self.check(look_value, plainpapers.value_is_shown, (mine, theirs),
                                      value_paper(mine, theirs, word, many=many))
                    self.assertIn(False, said)

    def test_papers_of_winners(self):
        for mine, theirs in HANDS:
            for count in range(len(mine) + 1):
                for cards in itertools.combinations(range(len(mine)), count):
                    paper = winners_paper(mine, theirs, list(cards))
                    self.check(look_winners, plainpapers.winners_are_shown, (mine, theirs), paper)

    def test_papers_of_tellings(self):
        source = random.Random(171)
        for mine, theirs in HANDS:
            for told in plainpapers.some_tellings(source, mine, theirs, 5):
                given = dict(zip(("pairs", "won", "lost"), told))
                self.check(look_telling, plainpapers.telling_is_shown, (mine, theirs),
                           telling_paper(mine, theirs, **given), given)

    def test_a_paper_of_other_hands(self):
        for looker, words, make in LOOKERS:
            said = set()
            for first, second in itertools.product(plain.all_orders(2), plain.all_orders(2) + plain.all_orders(3)[:5]):
                said.add(self.look(looker, words, first, make(*second)))
            self.assertEqual(said, {True, False})


class OtherPapersTest(Looking, unittest.TestCase):
    """Papers that the program does not make itself: each accepted one is right."""

    def test_spans(self):
        source, accepted = random.Random(172), 0
        for mine, theirs in HANDS + plain.all_orders(3):
            n, walk = len(mine), plain.plain_heights(mine, theirs)
            results = plain.all_results(mine, theirs)
            for _ in range(60):
                low, high = some_pairing(source, n), some_pairing(source, n)
                numbers = plain.count_won(mine, theirs, low), plain.count_won(mine, theirs, high)
                low_place = source.choice([p for p, x in enumerate(walk) if x == max(walk)] + [some_place(source, n)])
                high_place = source.choice([p for p, x in enumerate(walk) if x == min(walk)] + [some_place(source, n)])
                paper = ("span", numbers[0], low_place, low, numbers[1], high_place, high)
                if self.look(look_span, plainpapers.span_is_shown, (mine, theirs), paper):
                    self.assertEqual(numbers, (min(results), max(results)))
                    accepted += paper != span_paper(mine, theirs)
        self.assertGreater(accepted, 300)

    def test_rows_and_values(self):
        accepted = set()
        for mine, theirs in HANDS:
            row, words = plain.plain_row(mine, theirs), plain.all_words(len(mine))
            for pairing in plain.all_pairings(len(mine)):
                if self.look(look_row, plainpapers.row_is_shown, (mine, theirs), ("row", row, pairing)):
                    accepted.add(tuple(pairing))
                for many, word in itertools.product(SIDES, words[::4]):
                    for shown in range(-1, len(mine) + 2):
                        paper = ("value", word, many, shown, row, pairing)
                        if self.look(look_value, plainpapers.value_is_shown, (mine, theirs), paper):
                            self.assertEqual(shown, plain.played(mine, theirs, word, many))
        self.assertGreater(len(accepted), 8)

    def test_winners(self):
        source, accepted = random.Random(173), {True: 0, False: 0}
        for mine, theirs in HANDS + plain.all_orders(3):
            n = len(mine)
            possible = [plainpapers.winners_of(mine, theirs, pairing) for pairing in plain.all_pairings(n)]
            for _ in range(40):
                pairing = some_pairing(source, n)
                cards = source.choice([plainpapers.winners_of(mine, theirs, pairing), source.choice(possible)])
                others = sorted(source.sample(range(n), source.randint(0, n)))
                for paper in (("winners", cards, pairing), ("winners", others, pairing),
                              ("no winners", cards, some_place(source, n)), ("no winners", others, some_place(source, n))):
                    if self.look(look_winners, plainpapers.winners_are_shown, (mine, theirs), paper):
                        self.assertEqual(paper[1] in possible, paper[0] == "winners")
                        accepted[paper[0] == "winners"] += 1
        self.assertGreater(min(accepted.values()), 100, accepted)

    def test_cards_that_do_not_ascend_or_do_not_exist(self):
        mine, theirs = [1, 2, 3], [4, 5, 6]
        for cards in ([1, 0], [0, 0], [0, 3], [-1, 0], [3], [-1], [2, 1, 0], [0, 1, 1], [10 ** 15]):
            for place in range(-1, 8):
                self.assertIs(look_winners(mine, theirs, ("no winners", cards, place)), False)
            for pairing in plain.all_pairings(3):
                self.assertIs(look_winners(theirs, mine, ("winners", cards, pairing)), False)
        self.assertIs(look_winners(mine, theirs, ("no winners", [0, 1], 2)), True)
        self.assertIs(look_winners(theirs, mine, ("winners", [0, 1, 2], [2, 1, 0])), True)
        self.assertIs(look_winners(theirs, mine, ("winners", [0, 2, 1], [2, 1, 0])), False)

    def test_reserves(self):
        source, accepted = random.Random(174), 0
        for mine, theirs in HANDS + plain.all_orders(3) + plain.all_orders(4)[::5]:
            n, walk = len(mine), plain.plain_heights(mine, theirs)
            for _ in range(60):
                pairing, place = some_pairing(source, n), some_place(source, n)
                pairs = plainpapers.listed(mine, theirs, pairing, max(place, 0))
                if source.random() < 0.2:
                    source.shuffle(pairs)
                if self.look(look_reserve, plainpapers.reserve_is_shown, (mine, theirs), ("reserve", pairs, place, pairing)):
                    accepted += 1
                    for other in plain.all_pairings(n):
                        kept = sum(1 for m, t in pairs if other[m] == t)
                        self.assertGreaterEqual(plain.count_won(mine, theirs, other), walk[place] + kept)
        self.assertGreater(accepted, 300)

    def test_tellings(self):
        source, accepted = random.Random(175), {"agrees": 0, "contradiction": 0}
        for mine, theirs in HANDS + plain.all_orders(3):
            n = len(mine)
            for told in plainpapers.some_tellings(source, mine, theirs, 6):
                given = dict(zip(("pairs", "won", "lost"), told))
                pairings = [pairing for pairing in plain.all_pairings(n) if plainpapers.agrees(mine, theirs, pairing, *told)]
                results = [plain.count_won(mine, theirs, pairing) for pairing in pairings]
                for _ in range(12):
                    low, high = [source.choice((pairings or [[]]) + [some_pairing(source, n)]) for _ in range(2)]
                    numbers = [plain.count_won(mine, theirs, pairing) for pairing in (low, high)]
                    places = [some_place(source, n - len(told[0])) for _ in range(3)]
                    reason = source.choice(("winners", "height", "", "other"))
                    for paper in (("agrees", numbers[0], places[0], low, numbers[1], places[1], high),
                                  ("contradiction", reason, places[2])):
                        if self.look(look_telling, plainpapers.telling_is_shown, (mine, theirs), paper, given):
                            accepted[paper[0]] += 1
                            expected = "agrees" if results else "contradiction"
                            self.assertEqual(paper[0], expected)
                            if results:
                                self.assertEqual(numbers, [min(results), max(results)])
        self.assertGreater(min(accepted.values()), 50, accepted)

    def test_places_of_the_hands_that_are_left(self):
        # With a told pair the places count the cards that are left: there are 3 places, not 5.
        told = {"pairs": [(0, 1)]}
        hands = [1, 4], [2, 3]
        self.assertEqual(telling_paper(*hands, **told), ("agrees", 1, 1, [1, 0], 1, 0, [1, 0]))
        said = {"low": [], "high": []}
        for place in range(-2, 6):
            for part, places in (("low", (place, 0)), ("high", (1, place))):
                paper = ("agrees", 1, places[0], [1, 0], 1, places[1], [1, 0])
                said[part].append(self.look(look_telling, plainpapers.telling_is_shown, hands, paper, told))
        self.assertEqual(said, {"low": [False, False, False, True, False, False, False, False],
                                "high": [False, False, True, False, True, False, False, False]})
        lost = {"pairs": [(0, 1)], "lost": [1]}
        self.assertIs(look_telling(*hands, ("contradiction", "height", 1), **lost), True)
        for place in (-1, 0, 2, 3, 4):
            self.assertIs(look_telling(*hands, ("contradiction", "height", place), **lost), False)

    def test_40_cards(self):
        for mine, theirs in [([7] * 40, [7] * 40), *plain.some_hands(176, 3, 40, plain.LOW, plain.HIGH),
                             (list(range(40)), list(range(39, -1, -1)))]:
            for looker, words, make in LOOKERS:
                paper = make(mine, theirs)
                self.assertIs(looker(mine, theirs, paper), True)
                for other in plainpapers.changed(paper)[::17]:
                    self.look(looker, words, (mine, theirs), other)

    def test_lists_of_any_length(self):
        hands = [1, 3], [2, 2]
        for entries in ([], [0], [0, 1, 2], [1] * 50, [0, 10 ** 15], [-1, 1], [10 ** 30, -10 ** 30]):
            pairs = [(k, k) for k in entries]
            for paper, looker in ((("span", 1, 2, entries, 1, 0, entries), look_span), (("row", [0, 0], entries), look_row),
                                  (("row", entries, [0, 1]), look_row), (("winners", entries, entries), look_winners),
                                  (("value", "MM", "mine", 1, entries, [0, 1]), look_value),
                                  (("no winners", entries, 50), look_winners), (("reserve", pairs, 2, [0, 1]), look_reserve),
                                  (("reserve", [], 2, entries), look_reserve),
                                  (("agrees", 1, 0, entries, 1, 0, [0, 1]), look_telling),
                                  (("agrees", 1, 0, [0, 1], 1, 0, entries), look_telling)):
                self.assertIs(looker(*hands, paper), False, paper)


class WrongCallsTest(plain.Case, unittest.TestCase):

    def test_hands_of_different_lengths(self):
        told = {"mine_count": 1, "theirs_count": 2}
        for looker, paper in ((look_span, ("span", 0, 0, [9], 0, 0, [])), (look_row, ("row", [], [])),
                              (look_value, ("value", "x", "none", 0, [], [])), (look_winners, ("winners", [], [])),
                              (look_winners, ("no winners", [9], 9)), (look_reserve, ("reserve", [], 0, [])),
                              (look_telling, ("contradiction", "none", 0))):
            self.raises(BadHands, told, looker, [1], [1, 2], paper)
        self.raises(BadHands, told, look_telling, [1], [1, 2], ("agrees", 0, 0, [], 0, 0, []), won=[9])

    def test_wrong_tellings(self):
        hands = [1, 2, 3], [1, 2, 3]
        for paper in (("contradiction", "winners", 0), ("agrees", 0, 0, [], 0, 0, [])):
            self.raises(BadCard, {"side": "mine", "index": 2}, look_telling, *hands, paper, won=[2], lost=(2,))
            self.raises(BadCard, {"side": "theirs", "index": 3}, look_telling, *hands, paper, pairs=[(0, 3), (0, 0)])
            self.raises(BadCard, {"side": "theirs", "index": 1}, look_telling, *hands, paper, pairs=((0, 1), (2, 1)))
            self.raises(BadCard, {"side": "mine", "index": -1}, look_telling, *hands, paper, won=[-1], lost=[7])


if __name__ == "__main__":
    unittest.main()
