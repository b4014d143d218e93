"""What the document promises over the whole program: duels, seasons, tables, papers and desks in one play."""

import itertools
import random
import unittest

import plain
from climbrow.bills import rises_and_falls, slips
from climbrow.changes import late_pair
from climbrow.desk import Desk
from climbrow.duels import Duel
from climbrow.exact import ExactGuide
from climbrow.guides import Guide
from climbrow.hidden import HiddenGuide, look, sure_value
from climbrow.kinds import alike, plainest
from climbrow.league import beats_all, joined_pairing, least_table, loss_table
from climbrow.levels import row_of
from climbrow.lookers import look_reserve, look_row, look_span, look_telling, look_value, look_winners
from climbrow.moves import answer_values, best_answers, best_lays, lay_values
from climbrow.pairings import result, winners
from climbrow.papers import reserve_paper, row_paper, span_paper, telling_paper, value_paper, winners_paper
from climbrow.picks import picked_value
from climbrow.reserves import toward
from climbrow.rings import turn
from climbrow.rows import all_values, span_of_row, value, value_of
from climbrow.seasons import Season, season_value
from climbrow.spans import least, most, pairing_with, span_of
from climbrow.stewards import Steward
from climbrow.tableguides import TableGuide
from climbrow.tables import joint_span, merged, schedule_value, schedule_words
from climbrow.texts import format_deed, parse_deed
from climbrow.told import count_winner_sets, forced_marks, pairing_told, results_told
from climbrow.turns import exact_range, is_steady
from climbrow.uneven import UnevenGuide, uneven_value

SIDES = ("mine", "theirs")
HANDS = plain.some_hands(201, 30, 8) + [([], []), ([1, 1, 2], [1, 1, 2])]


def some_word(source, n):
    return "".join(source.choice("MT") for _ in range(n))


def numbers(span):
    return span.least, span.most


def rest_of(duel):
    my_left, their_left = duel.rest()
    return [duel.mine[m] for m in my_left], [duel.theirs[t] for t in their_left]


def play(duel, guides):
    """Play a duel to its end; each guide is asked for its side and told of each pair."""
    while duel.due is not None:
        side, act = duel.due
        if act == "lay":
            duel.lay(guides[side].lay())
        else:
            duel.answer(guides[side].answer(duel.open_card[1]))
            for guide in set(guides.values()):
                guide.saw(*duel.pairs[-1])
    return duel.won


class DuelsTest(unittest.TestCase):

    def test_two_guides_bring_about_the_value_without_a_slip(self):
        source = random.Random(202)
        for mine, theirs in HANDS:
            for many in SIDES:
                word = some_word(source, len(mine))
                duel = Duel(mine, theirs, word)
                guides = {side: Guide(mine, theirs, side, many=many) for side in SIDES}
                promises = [guide.promise(word) for guide in guides.values()]
                self.assertEqual(promises + [play(duel, guides)], [value_of(mine, theirs, word, many=many)] * 3)
                self.assertEqual(slips(mine, theirs, word, duel.pairs, many=many), [(0, 0)] * len(mine))
                bills = rises_and_falls(mine, theirs, duel.pairs)
                self.assertEqual(sum(rise + fall for rise, fall in bills), most(mine, theirs) - least(mine, theirs))
                self.assertEqual(result(mine, theirs, [dict(duel)[m] for m in range(len(mine))]), duel.won)

    def test_one_guide_holds_its_promise_against_plays_of_all_kinds(self):
        source = random.Random(203)
        for mine, theirs in HANDS:
            for side, many in itertools.product(SIDES, SIDES):
                word, n = some_word(source, len(mine)), len(mine)
                duel, guide = Duel(mine, theirs), Guide(mine, theirs, side, many=many)
                promise = guide.promise(word)
                for k, letter in enumerate(word):
                    duel.call(letter)
                    while duel.due is not None:
                        whose, act = duel.due
                        own = guide.lay if act == "lay" else lambda: guide.answer(duel.open_card[1])
                        index = own() if whose == side else source.choice(duel.rest()[whose == "theirs"])
                        getattr(duel, act)(index)
                    guide.saw(*duel.pairs[-1])
                    before, promise = promise, guide.promise(word[k + 1:])
                    self.assertGreaterEqual((promise - before) * (1 if side == many else -1), 0)
                    self.assertEqual(duel.value(word[k + 1:], many=many), promise)
                self.assertEqual((promise, len(duel.pairs)), (duel.won, n))

    def test_best_lays_and_answers_keep_the_value(self):
        source = random.Random(204)
        for mine, theirs in HANDS[:20]:
            for many in SIDES:
                word = some_word(source, len(mine))
                duel = Duel(mine, theirs, word)
                while duel.due is not None:
                    side, _ = duel.due
                    rest, letters = duel.rest(), word[len(duel.pairs):]
                    hands, at_hand = rest_of(duel), rest[side == "theirs"]
                    laid = source.choice(best_lays(*hands, letters, many=many))
                    self.assertEqual(duel.won + lay_values(*hands, letters, many=many)[laid], duel.value(letters, many=many))
                    answer = source.choice(best_answers(*hands, letters, laid, many=many))
                    expected = duel.won + answer_values(*hands, letters, laid, many=many)[answer]
                    duel.lay(at_hand[laid])
                    duel.answer(rest[side == "mine"][answer])
                    self.assertEqual(duel.value(letters[1:], many=many), expected)
                self.assertEqual(duel.won, value_of(mine, theirs, word, many=many))

    def test_an_exact_result(self):
        source, done = random.Random(205), 0
        for mine, theirs in HANDS + plain.some_hands(206, 40, 6):
            word = some_word(source, len(mine))
            if is_steady(word):
                low, high = exact_range(row_of(mine, theirs), word)
                for wanted in range(low, high + 1):
                    for many in SIDES:
                        duel = Duel(mine, theirs, word)
                        guides = {"mine": ExactGuide(mine, theirs, word, wanted),
                                  "theirs": Guide(mine, theirs, "theirs", many=many)}
                        self.assertEqual(play(duel, guides), wanted)
                        done += 1
        self.assertGreater(done, 50)

    def test_turning_the_ring_changes_all_values_alike(self):
        for mine, theirs in HANDS:
            for steps in (1, 3, 2 * len(mine)):
                new_mine, new_theirs, change = turn(mine, theirs, steps=steps)
                self.assertEqual(all_values(row_of(new_mine, new_theirs)),
                                 [number + change for number in all_values(row_of(mine, theirs))])
                self.assertEqual(numbers(span_of(new_mine, new_theirs)),
                                 (least(mine, theirs) + change, most(mine, theirs) + change))

    def test_hands_of_one_kind_are_worth_the_same(self):
        source = random.Random(207)
        for mine, theirs in HANDS:
            other = plainest(row_of(mine, theirs))
            self.assertTrue(alike(mine, theirs, *other))
            self.assertEqual(numbers(span_of(*other)), numbers(span_of_row(row_of(mine, theirs))))
            word = some_word(source, len(mine))
            if len(mine) < 5:
                self.assertEqual(plain.played(*other, word, "mine"), plain.played(mine, theirs, word, "mine"))

    def test_known_numbers_and_even_hands_are_an_ordinary_duel(self):
        source = random.Random(208)
        for mine, theirs in HANDS:
            n = len(mine)
            word = some_word(source, n)
            self.assertEqual([sure_value(mine, theirs, theirs, word), uneven_value(mine, theirs, word)],
                             [value_of(mine, theirs, word)] * 2)
            for side in SIDES:
                guides = [Guide(mine, theirs, side), UnevenGuide(mine, theirs, n, side)]
                guides += [HiddenGuide(mine, theirs, theirs)] if side == "mine" else []
                left = list(zip(plain.shuffled(n, n), plain.shuffled(n + 1, n)))
                for k, (m, t) in enumerate(left):
                    self.assertEqual(len({guide.lay() for guide in guides}), 1)
                    for pair in left[k:]:
                        self.assertEqual(len({guide.answer(pair[side == "mine"]) for guide in guides}), 1)
                    for guide in guides[:2]:
                        guide.saw(m, t)
                    for guide in guides[2:]:
                        guide.saw(m, t, theirs[t])
                    self.assertEqual(len({(guide.won, guide.promise(word[k + 1:])) for guide in guides}), 1)


class TellingsTest(unittest.TestCase):

    def test_what_a_duel_still_lets(self):
        source = random.Random(209)
        for mine, theirs in HANDS:
            desk = Desk()
            desk.do(("open", "a", some_word(source, len(mine)), mine, theirs))
            for _ in mine:
                for act in ("lay", "answer"):
                    desk.do((act, "a", desk.advice("a", many=source.choice(SIDES))))
                pairs = desk.state("a")[3]
                self.assertEqual(results_told(mine, theirs, pairs=pairs), numbers(desk.span("a")))
                paper = telling_paper(mine, theirs, pairs=pairs)
                self.assertTrue(look_telling(mine, theirs, paper, pairs=pairs))
                self.assertEqual((paper[1], paper[4]), numbers(desk.span("a")))
                for part in (paper[3], paper[6]):
                    self.assertTrue(set(pairs) <= set(enumerate(part)))
                forced = forced_marks(mine, theirs, pairs=pairs)
                self.assertEqual([forced[m] for m, _ in pairs], [mine[m] >= theirs[t] for m, t in pairs])

    def test_nothing_told_is_the_whole_span(self):
        for mine, theirs in HANDS:
            span = span_of(mine, theirs)
            self.assertEqual(results_told(mine, theirs), numbers(span))
            for wanted in range(span.least, span.most + 1):
                first, second = pairing_with(mine, theirs, wanted), pairing_told(mine, theirs, wanted)
                self.assertEqual([result(mine, theirs, first), result(mine, theirs, second)], [wanted] * 2)
                for pairing in (first, second):
                    cards = winners(mine, theirs, pairing)
                    self.assertEqual(winners_paper(mine, theirs, cards)[0], "winners")
                    self.assertEqual(results_told(mine, theirs, won=cards, lost=[m for m in range(len(mine)) if m not in cards]),
                                     (wanted, wanted))
            counts = [count_winner_sets(mine, theirs, k) for k in range(len(mine) + 1)]
            self.assertEqual([bool(count) for count in counts], [k in span for k in range(len(mine) + 1)])

    def test_toward_the_ends_of_the_span(self):
        for mine, theirs in HANDS:
            pairing = plain.shuffled(5, len(mine))
            for goal, expected in (("most", most(mine, theirs)), ("least", least(mine, theirs))):
                present = list(pairing)
                for m, other in toward(mine, theirs, pairing, goal=goal):
                    present[m], present[other] = present[other], present[m]
                self.assertEqual(result(mine, theirs, present), expected)

    def test_looks_lead_to_known_numbers(self):
        source = random.Random(210)
        for mine, theirs in HANDS:
            word = some_word(source, len(mine))
            lows, highs = [t - source.randint(0, 3) for t in theirs], [t + source.randint(0, 3) for t in theirs]
            sure = sure_value(mine, lows, highs, word)
            for index, number in enumerate(theirs):
                lows, highs = look(mine, lows, highs, index, number)
                before, sure = sure, sure_value(mine, lows, highs, word)
                self.assertIn(sure - before, (0, 1))
            self.assertEqual((sure, lows, highs), (value_of(mine, theirs, word), theirs, theirs))


class TablesTest(unittest.TestCase):

    def setUp(self):
        source = random.Random(211)
        self.tables = [[plain.some_hands(source.random(), 1, 3)[0] for _ in range(source.randint(0, 4))] for _ in range(25)]

    def play(self, tables, word, picker, many):
        """The result of a play with picks in which both sides are guided."""
        duels = [Duel(mine, theirs) for mine, theirs in tables]
        guides = {side: TableGuide(tables, side, picker=picker, many=many) for side in SIDES}
        for k, letter in enumerate(word):
            laying, other = SIDES if letter == "M" else SIDES[::-1]
            table = guides[laying if picker == "layer" else other].pick(word[k:])
            duel = duels[table]
            duel.call(letter)
            duel.lay(guides[laying].lay(table))
            duel.answer(guides[other].answer(table, duel.open_card[1]))
            for guide in guides.values():
                guide.saw(table, *duel.pairs[-1])
            self.assertEqual(len({guide.promise(word[k + 1:]) for guide in guides.values()}), 1)
        self.assertEqual([duel.due for duel in duels], [None] * len(duels))
        return sum(duel.won for duel in duels)

    def test_two_guides_bring_about_the_picked_value(self):
        source = random.Random(212)
        for tables in self.tables:
            rows = [row_of(mine, theirs) for mine, theirs in tables]
            for picker, many in itertools.product(("layer", "answerer"), SIDES):
                word = some_word(source, sum(map(len, rows)))
                found = self.play(tables, word, picker, many)
                self.assertEqual(found, picked_value(rows, word, picker=picker, many=many))
                self.assertTrue(found in joint_span(tables) and found in span_of(*merged(tables)))

    def test_a_schedule_on_a_desk(self):
        source = random.Random(213)
        for tables in self.tables:
            rounds = [table for table, (mine, _) in enumerate(tables) for _ in mine]
            source.shuffle(rounds)
            schedule = [(table, source.choice("MT")) for table in rounds]
            names, desk = "abcd", Desk()
            desk.run([format_deed(("open", names[k], word, *tables[k]))
                      for k, word in enumerate(schedule_words(tables, schedule))])
            self.assertEqual(numbers(desk.whole_span()), numbers(joint_span(tables)))
            guide = TableGuide(tables, "mine")
            promise = guide.schedule_promise(schedule)
            self.assertEqual(promise, schedule_value(tables, schedule))
            for k, (table, _) in enumerate(schedule):
                for act in ("lay", "answer"):
                    desk.do((act, names[table], desk.advice(names[table])))
                guide.saw(table, *desk.state(names[table])[3][-1])
                self.assertEqual(guide.schedule_promise(schedule[k + 1:]), promise)
            self.assertEqual(numbers(desk.whole_span()), (promise, promise))
            self.assertEqual(guide.won, promise)


class SeasonsTest(unittest.TestCase):

    def test_two_stewards_bring_about_the_value(self):
        source = random.Random(214)
        for mine, theirs in HANDS:
            for layer in SIDES:
                told = some_word(source, source.randint(0, 3)), source.randint(0, 3), some_word(source, source.randint(0, 3))
                season = Season(mine, theirs, *told, layer=layer)
                stewards = {side: Steward(mine, theirs, *told, side=side, layer=layer) for side in SIDES}
                while season.due is not None:
                    deed = stewards[season.due[0]].move()
                    getattr(season, "pass_turn" if deed[0] == "pass" else deed[0])(*deed[1:])
                    for steward in stewards.values():
                        steward.saw(deed)
                expected = season_value(span_of(mine, theirs), *told, layer=layer)
                self.assertEqual(season.won_count(), expected)
                self.assertEqual([steward.assured for steward in stewards.values()], [expected] * 2)
                pairing = [dict(season.bound + season.made)[m] for m in range(len(mine))]
                self.assertEqual(result(mine, theirs, pairing), expected)
                self.assertEqual(results_told(mine, theirs, pairs=season.bound + season.made), (expected, expected))


class DeskTest(unittest.TestCase):

    def test_a_play_by_advice_with_late_pairs_and_papers(self):
        source = random.Random(215)
        for mine, theirs in HANDS[:15]:
            desk, many = Desk(), source.choice(SIDES)
            desk.do(("open", "a", "", mine, theirs))
            late = 2
            while True:
                hands, rest = self.rest(desk)
                won = sum(hands[0][m] >= hands[1][t] for m, t in desk.state("a")[3])
                self.check_papers(rest, won, desk, source)
                if late and source.random() < 0.4:
                    late = late - 1
                    self.draw(desk, rest, source)
                    continue
                if not rest[0]:
                    break
                letters = some_word(source, len(rest[0]))
                promise = desk.value("a", letters, many=many)
                desk.do(("call", "a", letters[0]))
                for act in ("lay", "answer"):
                    desk.do(parse_deed(format_deed((act, "a", desk.advice("a", many=many)))))
                self.assertEqual(desk.value("a", letters[1:], many=many), promise)
            self.check_journal(desk)

    def rest(self, desk):
        """The whole hands of the duel, and the hands that are left."""
        mine, theirs, _, pairs, _ = desk.state("a")
        gone = dict(pairs)
        return (mine, theirs), ([x for m, x in enumerate(mine) if m not in gone],
                                [x for t, x in enumerate(theirs) if t not in gone.values()])

    def check_papers(self, rest, won, desk, source):
        span = span_paper(*rest)
        self.assertEqual((span[1] + won, span[4] + won), numbers(desk.span("a")))
        for look_at, paper in ((look_span, span), (look_row, row_paper(*rest)), (look_reserve, reserve_paper(*rest)),
                               (look_winners, winners_paper(*rest, list(range(len(rest[0])))))):
            self.assertIs(look_at(*rest, paper), True)
        word, many = some_word(source, len(rest[0])), source.choice(SIDES)
        paper = value_paper(*rest, word, many=many)
        self.assertIs(look_value(*rest, paper), True)
        self.assertEqual(paper[3] + won, desk.value("a", word, many=many))

    def draw(self, desk, rest, source):
        new = source.randint(0, 6), source.randint(0, 6)
        before, (_, _, lower, upper) = numbers(desk.span("a")), late_pair(*rest, *new)
        desk.do(("draw", "a", *new))
        self.assertEqual(numbers(desk.span("a")), (before[0] + lower, before[1] + upper))

    def check_journal(self, desk):
        """The texts of the journal lead to the same desk, and undoing leads back."""
        texts, other = [format_deed(deed) for deed in desk.journal()], Desk()
        self.assertEqual(other.run(texts), len(texts))
        self.assertEqual((other.state("a"), other.journal()), (desk.state("a"), desk.journal()))
        for text in texts[::-1]:
            self.assertEqual(format_deed(other.undo()), text)
        for text in texts:
            self.assertEqual(format_deed(other.redo()), text)
        self.assertEqual((other.state("a"), other.journal()), (desk.state("a"), desk.journal()))


class LeagueTest(unittest.TestCase):

    def test_numbers_of_a_league_are_those_of_its_duels(self):
        source = random.Random(216)
        for n in range(6):
            hands = [[source.randint(0, 6) for _ in range(n)] for _ in range(6)]
            least_numbers, losses = least_table(hands), loss_table(hands)
            for x, y in itertools.product(range(6), repeat=2):
                values = all_values(row_of(hands[x], hands[y]))
                self.assertEqual((least_numbers[x][y], n - losses[x][y]), (values[0], values[-1]))
                self.assertEqual((value(row_of(hands[x], hands[y]), "M" * n), value(row_of(hands[x], hands[y]), "T" * n)),
                                 (values[0], values[-1]))
            for x in beats_all(hands):
                self.assertEqual([value_of(hands[x], hand, "T" * n) for hand in hands], [n] * 6)
            for x, y, z in itertools.product(range(6), repeat=3):
                first = pairing_with(hands[x], hands[y], least_numbers[x][y])
                second = pairing_with(hands[y], hands[z], least_numbers[y][z])
                found = result(hands[x], hands[z], joined_pairing(first, second))
                self.assertTrue(least_numbers[x][z] <= found <= least_numbers[x][y] + least_numbers[y][z])


if __name__ == "__main__":
    unittest.main()
