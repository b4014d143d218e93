"""climbrow.tableguides: point 51 (with 38, 39, 48 to 50) and the interface."""

import copy
import itertools
import random
import unittest

import plain
from climbrow.errors import BadCard, BadHands, BadPlace, BadSchedule, BadWord, OutOfTurn
from climbrow.guides import Guide
from climbrow.levels import row_of
from climbrow.picks import best_picks, picked_value
from climbrow.rows import value_of
from climbrow.tableguides import TableGuide

SIDES = ("mine", "theirs")
PICKERS = ("layer", "answerer")
ALL = list(itertools.product(SIDES, PICKERS, SIDES))
SMALL = [[], [([], [])], [([2], [2])], [([1, 3], [2, 4]), ([2, 3], [1, 4])], [([2, 4], [1, 3])] * 2,
         [([1, 2], [1, 2]), ([], []), ([1], [2]), ([5], [5])], [([2, 4, 6], [1, 3, 5]), ([4], [5])]]


def some_tables(seed, count):
    """Lists of 0 to 4 tables with not too many cards, always the same ones for the same seed."""
    source = random.Random(seed)
    found = []
    for _ in range(count):
        sizes = [source.randint(0, 3) for _ in range(source.randint(0, 4))]
        while sum(sizes) > 7:
            sizes.pop()
        found.append([([source.randint(0, 4) for _ in range(n)], [source.randint(0, 4) for _ in range(n)]) for n in sizes])
    return found


class Watched:
    """A table guide beside what is left at each table."""

    def __init__(self, tables, side, picker, many):
        self.tables, self.side, self.picker, self.many = tables, side, picker, many
        self.guide = TableGuide(tables, side, picker=picker, many=many)
        self.plans = [Guide(mine, theirs, side, many=many) for mine, theirs in tables]
        self.left = [(list(range(len(mine))), list(range(len(theirs)))) for mine, theirs in tables]
        self.won = [0] * len(tables)

    def saw(self, table, m, t):
        self.guide.saw(table, m, t)
        self.plans[table].saw(m, t)
        self.left[table][0].remove(m)
        self.left[table][1].remove(t)
        self.won[table] += plain.won(*self.tables[table], m, t)

    def rest(self):
        return [([mine[k] for k in left[0]], [theirs[k] for k in left[1]])
                for (mine, theirs), left in zip(self.tables, self.left)]

    def rounds(self):
        return sum(len(left[0]) for left in self.left)

    def rows(self):
        """The rows that are left, counted in at each table."""
        return [[entry + won for entry in row_of(mine, theirs)] for (mine, theirs), won in zip(self.rest(), self.won)]

    def promise(self, word):
        gone = sum(won for won, left in zip(self.won, self.left) if not left[0])
        return gone + picked_value(self.rows(), word, picker=self.picker, many=self.many)

    def schedule_promise(self, schedule):
        words = ["".join(letter for at, letter in schedule if at == table) for table in range(len(self.tables))]
        return sum(won + value_of(*rest, word, many=self.many) for won, rest, word in zip(self.won, self.rest(), words))

    def picking(self, letter):
        laying = "mine" if letter == "M" else "theirs"
        return laying if self.picker == "layer" else {"mine": "theirs", "theirs": "mine"}[laying]

    def others(self, table):
        """The cards that the other side has left at the table."""
        return self.left[table][1 if self.side == "mine" else 0]

    def made(self, table, letter):
        """The pairs that may be made at the table if the guide's side follows the plan."""
        if (letter == "M") == (self.side == "mine"):
            laid = self.guide.lay(table)
            return [plain.pair_of(self.side, laid, answer) for answer in self.others(table)]
        return [plain.pair_of(self.side, self.guide.answer(table, laid), laid) for laid in self.others(table)]


def shown(watched):
    """All that a table guide tells."""
    guide, found = watched.guide, [watched.guide.won]
    for table, left in enumerate(watched.left):
        if left[0]:
            found += [guide.lay(table), [guide.answer(table, index) for index in watched.others(table)]]
    for word in plain.all_words(watched.rounds())[::3]:
        found += [guide.promise(word), guide.schedule_promise(some_schedule(random.Random(1), watched))]
    return found


def some_schedule(source, watched):
    rounds = [table for table, left in enumerate(watched.left) for _ in left[0]]
    source.shuffle(rounds)
    return [(table, source.choice("MT")) for table in rounds]


class PlayTest(plain.Case, unittest.TestCase):

    def check(self, watched, source):
        guide = watched.guide
        self.assertEqual(guide.won, sum(watched.won))
        for table, plan in enumerate(watched.plans):
            if watched.left[table][0]:
                self.assertEqual(guide.lay(table), plan.lay())
            for index in watched.others(table):
                self.assertEqual(guide.answer(table, index), plan.answer(index))
        for _ in range(3):
            schedule = some_schedule(source, watched)
            self.assertEqual(guide.schedule_promise(schedule), watched.schedule_promise(schedule))
            word = "".join(letter for _, letter in schedule)
            self.assertEqual(guide.promise(word), watched.promise(word))
            if word and watched.picking(word[0]) == watched.side:
                picks = best_picks(watched.rows(), word, picker=watched.picker, many=watched.many)
                self.assertEqual(guide.pick(word), picks[0])
            else:
                self.raises(OutOfTurn, {}, guide.pick, word)

    def test_picks_plans_and_promises_in_all_kinds_of_plays(self):
        source = random.Random(141)
        for tables in some_tables(142, 25) + SMALL:
            for side, picker, many in ALL:
                watched = Watched(tables, side, picker, many)
                self.check(watched, source)
                while watched.rounds():
                    # Half of the time the guide's side does not follow the plan.
                    table = source.choice([table for table, left in enumerate(watched.left) if left[0]])
                    pairs = list(itertools.product(*watched.left[table]))
                    if source.random() < 0.5:
                        pairs = watched.made(table, source.choice("MT"))
                    self.assertIsNone(watched.saw(table, *source.choice(pairs)))
                    self.check(watched, source)

    def test_the_pick_is_the_smallest_of_the_best(self):
        several = 0
        for tables in some_tables(143, 60) + SMALL:
            rows = [row_of(mine, theirs) for mine, theirs in tables]
            for word in plain.all_words(sum(map(len, rows)))[::3]:
                for side, picker, many in ALL:
                    watched = Watched(tables, side, picker, many)
                    if word and watched.picking(word[0]) == side:
                        picks = best_picks(rows, word, picker=picker, many=many)
                        self.assertEqual(watched.guide.pick(word), min(picks))
                        several += len(picks) > 1
        self.assertGreater(several, 100)

    def test_known_answers(self):
        guide = TableGuide([([1, 1, 2], [1, 1, 2]), ([4], [5])], "mine")
        self.assertEqual((guide.lay(0), guide.answer(0, 2), guide.lay(1), guide.answer(1, 0)), (1, 2, 0, 0))
        self.assertEqual((guide.won, guide.schedule_promise([(0, "T"), (1, "M"), (0, "T"), (0, "M")])), (0, 3))
        self.assertEqual((guide.pick("MMMM"), guide.promise("MMMM")), (0, 2))
        guide.saw(1, 0, 0)
        self.assertEqual((guide.won, guide.promise("TTM"), guide.promise("MMT"), guide.pick("MMT")), (0, 3, 2, 0))
        guide.saw(0, 1, 0)
        self.assertEqual((guide.won, guide.promise("MM")), (1, 2))
        for side in SIDES:
            guide = TableGuide([], side)
            self.assertEqual((guide.won, guide.promise(""), guide.schedule_promise([])), (0, 0, 0))
            guide = TableGuide([([], [])] * 6, side, picker="answerer", many="theirs")
            self.assertEqual((guide.won, guide.promise(""), guide.schedule_promise([])), (0, 0, 0))

    def test_the_layer_picks_and_mine_wishes_for_many_if_nothing_is_said(self):
        tables, different = [([2, 4, 6], [1, 3, 5]), ([2, 4], [1, 3])], set()
        for word in plain.all_words(5):
            found = TableGuide(tables, "mine").promise(word)
            self.assertEqual(found, TableGuide(tables, "mine", picker="layer", many="mine").promise(word))
            different.add((found != TableGuide(tables, "mine", picker="answerer").promise(word),
                           found != TableGuide(tables, "mine", many="theirs").promise(word)))
        self.assertIn((True, True), different)

    def test_40_pairs_of_cards_at_6_tables(self):
        tables = [(list(range(n)), list(range(n, 2 * n))) for n in (0, 10, 9, 8, 7, 6)]
        schedule = [(table, "MT"[k % 2]) for table, (mine, _) in enumerate(tables) for k in range(len(mine))]
        for side, picker, many in ALL:
            guide = TableGuide(tables, side, picker=picker, many=many)
            words = ["".join(letter for at, letter in schedule if at == table) for table in range(6)]
            self.assertEqual(guide.schedule_promise(schedule), sum(
                plain_value(mine, theirs, word, many) for (mine, theirs), word in zip(tables, words)))
            plan = Guide(*tables[1], side, many=many)
            self.assertEqual((guide.lay(1), guide.answer(1, 7)), (plan.lay(), plan.answer(7)))

    def test_12_pairs_of_cards_with_picks(self):
        for many in SIDES:
            guide = TableGuide([([7] * 3, [7] * 3)] * 4, "theirs", many=many)
            self.assertEqual((guide.promise("MT" * 6), guide.pick("T" * 12)), (12, 0))

    def test_lists_that_were_passed_may_change(self):
        tables = [([1, 3], [2, 4]), ([5], [5])]
        watched = Watched(tables, "mine", "layer", "mine")
        watched.tables = copy.deepcopy(tables)
        before, guide = shown(watched), watched.guide
        tables[0][0].clear()
        tables[0][1][0] = 77
        tables[1][1][0] = 99
        tables.pop()
        self.assertEqual(shown(watched), before)
        guide.saw(1, 0, 0)
        guide.saw(0, 1, 0)
        self.assertEqual(guide.won, 2)

    def test_questions_change_nothing(self):
        watched = Watched([([1, 3], [2, 4]), ([2, 3], [1, 4])], "mine", "layer", "mine")
        before = shown(watched)
        for word in plain.all_words(4)[:8]:
            watched.guide.pick(word)
        self.assertEqual(shown(watched), before)

    def test_tables_that_are_alike_are_different_tables(self):
        table = ([1, 3], [2, 4])
        guide = TableGuide([table, table], "mine")
        guide.saw(1, 1, 0)
        self.assertEqual([guide.lay(0), guide.lay(1)], [Guide(*table, "mine").lay(), 0])
        self.assertEqual((guide.answer(0, 0), guide.won), (Guide(*table, "mine").answer(0), 1))


def plain_value(mine, theirs, word, many):
    return value_of(mine, theirs, word, many=many)


class HoldTest(plain.Case, unittest.TestCase):

    def test_the_promises_never_get_worse_with_picks(self):
        for tables in [[([1, 3], [2, 4]), ([2], [2])], [([2, 4], [1, 3]), ([1, 3], [2, 4])],
                       [([1], [2]), ([], []), ([3], [3]), ([2, 1], [1, 2])], [([2, 4, 6], [1, 3, 5]), ([2], [1])]]:
            for side, picker, many in ALL:
                self.follow(Watched(tables, side, picker, many), set())

    def follow(self, watched, seen):
        """Try all picks and plays of the other side in all words, as long as the guide's side follows the plan."""
        rounds = watched.rounds()
        key = str(watched.left)
        if not rounds or key in seen:
            return
        seen.add(key)
        better = 1 if watched.side == watched.many else -1
        open_tables = [table for table, left in enumerate(watched.left) if left[0]]
        for word in plain.all_words(rounds):
            promise = watched.guide.promise(word)
            picking = watched.picking(word[0]) == watched.side
            for table in [watched.guide.pick(word)] if picking else open_tables:
                for pair in watched.made(table, word[0]):
                    later = copy.deepcopy(watched)
                    later.saw(table, *pair)
                    self.assertGreaterEqual((later.guide.promise(word[1:]) - promise) * better, 0)
                    self.follow(later, seen)

    def test_the_promises_never_get_worse_under_a_schedule(self):
        source = random.Random(144)
        for tables in some_tables(145, 40):
            for side, picker, many in ALL:
                watched = Watched(tables, side, picker, many)
                schedule, better = some_schedule(source, watched), 1 if side == many else -1
                while schedule:
                    promise = watched.guide.schedule_promise(schedule)
                    (table, letter), schedule = schedule[0], schedule[1:]
                    for pair in watched.made(table, letter):
                        later = copy.deepcopy(watched)
                        later.saw(table, *pair)
                        self.assertGreaterEqual((later.guide.schedule_promise(schedule) - promise) * better, 0)
                    watched.saw(table, *source.choice(watched.made(table, letter)))
                self.assertEqual(watched.guide.schedule_promise([]), sum(watched.won))


class WrongCallsTest(plain.Case, unittest.TestCase):

    def test_hands_of_different_lengths(self):
        tables = [([1], [1]), ([1, 2], [1]), ([], [1])]
        for side, picker, many in ALL:
            self.raises(BadHands, {"mine_count": 2, "theirs_count": 1}, TableGuide, tables, side, picker=picker, many=many)
            self.raises(BadHands, {"mine_count": 0, "theirs_count": 1}, TableGuide, tables[::2], side)

    def test_tables_that_do_not_exist(self):
        for count in (0, 2):
            guide = TableGuide([([1], [1])] * count, "mine")
            for table in (-1, count, -2, 77):
                self.raises(BadPlace, {"place": table}, guide.lay, table)
                self.raises(BadPlace, {"place": table}, guide.answer, table, 99)
                self.raises(BadPlace, {"place": table}, guide.saw, table, 99, -1)

    def test_cards_that_are_not_left(self):
        for side, other in (SIDES, SIDES[::-1]):
            watched = Watched([([1, 2, 3], [1, 2, 3]), ([4], [4]), ([], [])], side, "layer", "mine")
            watched.saw(0, 1, 2)
            watched.saw(1, 0, 0)
            before = shown(watched)
            gone = 2 if other == "theirs" else 1
            for index in (-1, 3, gone):
                self.raises(BadCard, {"side": other, "index": index}, watched.guide.answer, 0, index)
            for index in (-1, 3, 1):
                self.raises(BadCard, {"side": "mine", "index": index}, watched.guide.saw, 0, index, 9)
            for index in (-1, 3, 2):
                self.raises(BadCard, {"side": "theirs", "index": index}, watched.guide.saw, 0, 0, index)
            for table in (1, 2):
                self.raises(OutOfTurn, {}, watched.guide.lay, table)
                self.raises(BadCard, {"side": other, "index": 0}, watched.guide.answer, table, 0)
                self.raises(BadCard, {"side": "mine", "index": 0}, watched.guide.saw, table, 0, 0)
            self.assertEqual(shown(watched), before)

    def test_wrong_words(self):
        guide = TableGuide([([1, 2], [1, 2]), ([4], [4])], "theirs")
        guide.saw(0, 0, 0)
        for call in (guide.pick, guide.promise):
            self.raises(BadWord, {"position": 1}, call, "M")
            self.raises(BadWord, {"position": 2}, call, "MTM")
            self.raises(BadWord, {"position": 0}, call, "xT")
            self.raises(BadWord, {"position": 3}, call, "MTMm")
            self.raises(BadWord, {"position": 0}, call, "")
        self.raises(BadWord, {"position": 0}, TableGuide([], "mine").pick, "M")
        self.raises(BadWord, {"position": 0}, TableGuide([([], [])], "mine").promise, "T")

    def test_a_pick_that_is_not_due(self):
        for side in SIDES:
            own, other = ("M", "T") if side == "mine" else ("T", "M")
            for picker, due, not_due in (("layer", own, other), ("answerer", other, own)):
                guide = TableGuide([([], []), ([1, 2], [1, 2])], side, picker=picker)
                self.assertEqual((guide.pick(due + "M"), guide.pick(due + "T")), (1, 1))
                self.raises(OutOfTurn, {}, guide.pick, not_due + "M")
                self.raises(OutOfTurn, {}, guide.pick, not_due + "T")
                guide.saw(1, 0, 0)
                guide.saw(1, 1, 1)
                self.raises(OutOfTurn, {}, guide.pick, "")
                self.raises(OutOfTurn, {}, TableGuide([], side, picker=picker).pick, "")

    def test_wrong_schedules(self):
        guide = TableGuide([([1, 2], [1, 2]), ([4], [4]), ([], [])], "mine")
        whole = [(0, "M"), (1, "T"), (0, "T")]
        for length in range(3):
            self.raises(BadSchedule, {"position": length}, guide.schedule_promise, whole[:length])
        for table in (-1, 3, 2):
            self.raises(BadSchedule, {"position": 1}, guide.schedule_promise, [(0, "M"), (table, "T"), (0, "x")])
        for letter in ("", "x", "MT", "m"):
            self.raises(BadSchedule, {"position": 2}, guide.schedule_promise, whole[:2] + [(0, letter), (9, "M")])
        self.raises(BadSchedule, {"position": 3}, guide.schedule_promise, whole + [(0, "M")])
        # In the middle of a play, the cards that are left count.
        guide.saw(0, 0, 1)
        self.raises(BadSchedule, {"position": 2}, guide.schedule_promise, whole)
        self.raises(BadSchedule, {"position": 1}, guide.schedule_promise, whole[:1])
        self.assertEqual(guide.schedule_promise(whole[:2]), 2)
        guide.saw(1, 0, 0)
        self.raises(BadSchedule, {"position": 0}, guide.schedule_promise, [(1, "M"), (0, "M")])
        self.raises(BadSchedule, {"position": 0}, guide.schedule_promise, [])
        self.assertEqual(guide.schedule_promise([(0, "T")]), 2)


if __name__ == "__main__":
    unittest.main()
