"""climbrow.tables: points 48, 49 and the interface."""

import copy
import itertools
import random
import unittest

import plain
from climbrow.errors import BadHands, BadSchedule
from climbrow.guides import Guide
from climbrow.spans import Span, least, most
from climbrow.tables import joint_span, merged, schedule_value, schedule_words

SIDES = ("mine", "theirs")
TWO = [([1, 1, 2], [1, 1, 2]), ([4], [5])]


def some_tables(seed, count, longest):
    """Lists of 0 to 6 tables, always the same ones for the same seed."""
    source = random.Random(seed)
    return [[plain.some_hands(source.random(), 1, longest, 0, 5)[0] for _ in range(source.randint(0, 6))]
            for _ in range(count)]


def some_schedule(source, tables):
    """A schedule that fits the tables."""
    rounds = [table for table, (mine, _) in enumerate(tables) for _ in mine]
    source.shuffle(rounds)
    return [(table, source.choice("MT")) for table in rounds]


def all_schedules(tables):
    rounds = [table for table, (mine, _) in enumerate(tables) for _ in mine]
    for order in sorted(set(itertools.permutations(rounds))):
        for word in plain.all_words(len(rounds)):
            yield list(zip(order, word))


def played_together(tables, schedule, many):
    """The result of all tables together, by trying all plays of both sides."""
    def best(left, at):
        if at == len(schedule):
            return 0
        if (left, at) not in known:
            table, letter = schedule[at]
            my_left, their_left = left[table]
            made = {}
            for m, t in itertools.product(my_left, their_left):
                rest = tuple(x for x in my_left if x != m), tuple(x for x in their_left if x != t)
                pair = plain.won(*tables[table], m, t)
                made[m, t] = pair + best((*left[:table], rest, *left[table + 1:]), at + 1)
            choose_mine, choose_theirs = (max, min) if many == "mine" else (min, max)
            if letter == "M":
                found = choose_mine(choose_theirs(made[m, t] for t in their_left) for m in my_left)
            else:
                found = choose_theirs(choose_mine(made[m, t] for m in my_left) for t in their_left)
            known[left, at] = found
        return known[left, at]
    known = {}
    return best(tuple((tuple(range(len(mine))), tuple(range(len(theirs)))) for mine, theirs in tables), 0)


class WordsTest(plain.Case, unittest.TestCase):

    def test_the_letters_of_the_rounds_of_each_table(self):
        source = random.Random(81)
        for tables in some_tables(82, 80, 7):
            schedule = some_schedule(source, tables)
            expected = ["".join(letter for at, letter in schedule if at == table) for table in range(len(tables))]
            self.assertEqual(schedule_words(tables, schedule), expected)

    def test_known_answers(self):
        self.assertEqual(schedule_words([], []), [])
        self.assertEqual(schedule_words([([], [])], []), [""])
        self.assertEqual(schedule_words(TWO, [(0, "M"), (1, "T"), (0, "T"), (0, "M")]), ["MTM", "T"])
        six = [([k], [k]) for k in range(6)]
        self.assertEqual(schedule_words(six, [(k, "MT"[k % 2]) for k in range(6)][::-1]), list("MTMTMT"))
        self.assertEqual(schedule_words([([7] * 40, [7] * 40)], [(0, "T")] * 40), ["T" * 40])


class ValueTest(plain.Case, unittest.TestCase):

    def test_against_all_plays_of_all_tables_together(self):
        for tables in ([([2, 4], [1, 3]), ([1], [1])], [([1, 3], [2, 4]), ([2, 3], [1, 4])],
                       [([1], [2]), ([], []), ([3], [3])], [([1, 3, 5], [2, 4, 6])],
                       [([2, 4, 6], [1, 3, 5]), ([4], [5])], [([3, 2], [1, 3]), ([4], [4]), ([1, 5], [2, 4])]):
            for schedule in all_schedules(tables):
                for many in SIDES:
                    self.assertEqual(schedule_value(tables, schedule, many=many),
                                     played_together(tables, schedule, many))

    def test_the_sum_of_the_values_of_the_tables(self):
        source = random.Random(83)
        for tables in some_tables(84, 40, 4):
            schedule = some_schedule(source, tables)
            for many in SIDES:
                expected = 0
                for table, (mine, theirs) in enumerate(tables):
                    word = "".join(letter for at, letter in schedule if at == table)
                    expected += plain.played(mine, theirs, word, many)
                self.assertEqual(schedule_value(tables, schedule, many=many), expected)

    def test_both_sides_hold_to_it_if_the_schedule_becomes_known_only_round_by_round(self):
        source = random.Random(85)
        for tables in some_tables(86, 60, 5):
            schedule = some_schedule(source, tables)
            for side, many in itertools.product(SIDES, SIDES):
                guides = [Guide(mine, theirs, side, many=many) for mine, theirs in tables]
                left = [[list(range(len(mine))), list(range(len(mine)))] for mine, _ in tables]
                for table, letter in schedule:
                    other = source.choice(left[table][side == "mine"])
                    own = guides[table].lay() if (letter == "M") == (side == "mine") else guides[table].answer(other)
                    m, t = plain.pair_of(side, own, other)
                    guides[table].saw(m, t)
                    left[table][0].remove(m)
                    left[table][1].remove(t)
                better = 1 if side == many else -1
                result, value = sum(guide.won for guide in guides), schedule_value(tables, schedule, many=many)
                self.assertGreaterEqual((result - value) * better, 0)

    def test_many_is_mine_if_nothing_is_said(self):
        schedule = [(0, "T"), (0, "T"), (1, "M"), (0, "M")]
        self.assertEqual([schedule_value(TWO, schedule), schedule_value(TWO, schedule, many="mine"),
                          schedule_value(TWO, schedule, many="theirs")], [3, 3, 2])

    def test_no_tables_and_tables_without_cards(self):
        for tables in ([], [([], [])], [([], [])] * 6):
            self.assertEqual([schedule_value(tables, []), schedule_value(tables, [], many="theirs")], [0, 0])
        self.assertEqual(schedule_value([([], []), ([5], [5]), ([], [])], [(1, "T")]), 1)


class WrongSchedulesTest(plain.Case, unittest.TestCase):

    def bad(self, position, tables, schedule):
        for call in (schedule_words, schedule_value):
            self.raises(BadSchedule, {"position": position}, call, tables, schedule)
        for many in SIDES:
            self.raises(BadSchedule, {"position": position}, schedule_value, tables, schedule, many=many)

    def test_a_table_that_does_not_exist(self):
        for table in (-1, 2, 9, -2):
            self.bad(1, TWO, [(0, "M"), (table, "M"), (1, "x")])
        self.bad(0, [], [(0, "M")])

    def test_a_letter_that_is_none(self):
        for letter in ("", "m", "MT", "MM", "X", " "):
            self.bad(2, TWO, [(0, "M"), (1, "T"), (0, letter), (0, "M")])

    def test_a_table_that_has_no_cards_left(self):
        self.bad(1, TWO, [(1, "M"), (1, "M"), (0, "T"), (0, "M"), (0, "M")])
        self.bad(4, TWO, [(0, "M"), (0, "M"), (0, "M"), (1, "T"), (0, "T")])
        self.bad(0, [([], []), ([1], [1])], [(0, "M"), (1, "M")])

    def test_too_short(self):
        for length in range(4):
            self.bad(length, TWO, [(0, "M"), (0, "T"), (1, "M"), (0, "M")][:length])
        self.bad(1, [([1], [1]), ([1], [1])], [(1, "M")])

    def test_the_first_wrong_index_counts(self):
        self.bad(1, TWO, [(0, "M"), (1, "?"), (5, "M"), (0, "M")])
        self.bad(2, TWO, [(0, "M"), (1, "M"), (1, "?")])

    def test_hands_of_different_lengths_come_first(self):
        tables = [([1], [1]), ([1, 2], [1]), ([], [1])]
        for call in (schedule_words, schedule_value):
            self.raises(BadHands, {"mine_count": 2, "theirs_count": 1}, call, tables, [(9, "x")])
            self.raises(BadHands, {"mine_count": 0, "theirs_count": 1}, call, tables[::2], [])
        for call in (joint_span, merged):
            self.raises(BadHands, {"mine_count": 2, "theirs_count": 1}, call, tables)
            self.raises(BadHands, {"mine_count": 0, "theirs_count": 1}, call, tables[::-1])
        # Together the tables have as many cards on each side.
        for call in (joint_span, merged):
            self.raises(BadHands, {"mine_count": 2, "theirs_count": 1}, call, [([1, 2], [1]), ([1], [1, 2])])


class TogetherTest(plain.Case, unittest.TestCase):

    def test_the_joint_span(self):
        for tables in some_tables(87, 60, 4):
            found = joint_span(tables)
            results = [plain.all_results(mine, theirs) for mine, theirs in tables]
            self.assertIsInstance(found, Span)
            self.assertEqual((found.least, found.most), (sum(map(min, results)), sum(map(max, results))))

    def test_no_tables(self):
        self.assertEqual((joint_span([]).least, joint_span([]).most), (0, 0))
        self.assertEqual(merged([]), ([], []))
        self.assertEqual(merged([([], []), ([], [])]), ([], []))

    def test_all_cards_table_by_table(self):
        self.assertEqual(merged(TWO), ([1, 1, 2, 4], [1, 1, 2, 5]))
        self.assertEqual(merged([([3, 1], [2, 9]), ([], []), ([0], [7])]), ([3, 1, 0], [2, 9, 7]))

    def test_the_merged_hands_have_a_wider_span(self):
        for tables in some_tables(88, 60, 7):
            joint, (mine, theirs) = joint_span(tables), merged(tables)
            self.assertLessEqual(least(mine, theirs), joint.least)
            self.assertGreaterEqual(most(mine, theirs), joint.most)

    def test_arguments_and_what_is_returned(self):
        tables = [([1, 2], [3, 4]), ([5], [6])]
        given = copy.deepcopy(tables)
        mine, theirs = merged(tables)
        mine.append(7)
        theirs.clear()
        words = schedule_words(tables, [(0, "M"), (1, "T"), (0, "M")])
        words.clear()
        self.assertEqual(tables, given)
        self.assertEqual(merged(tables), ([1, 2, 5], [3, 4, 6]))
        one = [([1, 2], [3, 4])]
        merged(one)[0].append(9)
        self.assertEqual(one, [([1, 2], [3, 4])])


if __name__ == "__main__":
    unittest.main()
