"""climbrow.picks: point 50 (with 24 and 25) and the interface."""

import copy
import itertools
import random
import unittest

import plain
from climbrow.errors import BadWord
from climbrow.levels import row_of
from climbrow.picks import best_picks, picked_value
from climbrow.rows import value

SIDES = ("mine", "theirs")
PICKERS = ("layer", "answerer")
BOTH = list(itertools.product(PICKERS, SIDES))


def plain_strike(row, letter, many):
    """Point 25."""
    if {"M": "mine", "T": "theirs"}[letter] == many:
        return row[1:]
    return [entry + 1 for entry in row[:-1]]


def plain_choices(rows, word, picker, many):
    """Point 50: the value of each row with an entry, by index."""
    found = {}
    for index, row in enumerate(rows):
        others = rows[:index], rows[index + 1:]
        if len(row) == 1:
            found[index] = row[0] + 1 + plain_value([*others[0], *others[1]], word[1:], picker, many)
        elif row:
            struck = plain_strike(row, word[0], many)
            found[index] = plain_value([*others[0], struck, *others[1]], word[1:], picker, many)
    return found


def plain_value(rows, word, picker, many):
    found = plain_choices(rows, word, picker, many)
    if not found:
        return 0
    laying = {"M": "mine", "T": "theirs"}[word[0]]
    picks = laying if picker == "layer" else {"mine": "theirs", "theirs": "mine"}[laying]
    return max(found.values()) if picks == many else min(found.values())


def played_with_picks(tables, word, picker, many):
    """The result of a play with picks, by trying all picks and all plays of both sides."""
    def best(left, at):
        if at == len(word):
            return 0
        if left not in known:
            laying = "mine" if word[at] == "M" else "theirs"
            picks = laying if picker == "layer" else ("theirs" if laying == "mine" else "mine")
            better = max if picks == many else min
            known[left] = better(at_table(left, at, table) for table in range(len(tables)) if left[table][0])
        return known[left]

    def at_table(left, at, table):
        my_left, their_left = left[table]
        made = {}
        for m, t in itertools.product(my_left, their_left):
            rest = tuple(x for x in my_left if x != m), tuple(x for x in their_left if x != t)
            made[m, t] = plain.won(*tables[table], m, t) + best((*left[:table], rest, *left[table + 1:]), at + 1)
        choose_mine, choose_theirs = (max, min) if many == "mine" else (min, max)
        if word[at] == "M":
            return choose_mine(choose_theirs(made[m, t] for t in their_left) for m in my_left)
        return choose_theirs(choose_mine(made[m, t] for m in my_left) for t in their_left)
    known = {}
    return best(tuple((tuple(range(len(mine))), tuple(range(len(theirs)))) for mine, theirs in tables), 0)


def some_rows(seed, count):
    """Lists of rows and of lists that were struck or counted in, with 0 to 4 rows."""
    source = random.Random(seed)
    found = []
    for _ in range(count):
        rows = []
        for _ in range(source.randint(0, 4)):
            row = source.choice(plain.all_rows(source.randint(0, 3 if len(rows) < 2 else 1)))
            rows.append([entry + source.choice((0, 0, 1, 5)) for entry in row] if source.random() < 0.4 else row)
            if source.random() < 0.2:
                rows[-1] = plain_strike(rows[-1], source.choice("MT"), "mine")
        found.append(rows)
    return found


class ValueTest(plain.Case, unittest.TestCase):

    def test_the_rules_said_plainly(self):
        source = random.Random(91)
        for rows in some_rows(92, 250):
            word = "".join(source.choice("MT") for row in rows for _ in row)
            for picker, many in BOTH:
                self.assertEqual(picked_value(rows, word, picker=picker, many=many),
                                 plain_value(rows, word, picker, many), (rows, word))

    def test_what_both_sides_can_hold_to(self):
        for tables in ([([2, 4], [1, 3]), ([1, 3], [2, 4])], [([1, 3, 5], [2, 4, 6]), ([3], [3])],
                       [([1, 2], [1, 2]), ([1], [2]), ([5], [5])], [([2, 3, 1], [2, 1, 3]), ([2, 4], [1, 3])],
                       [([], []), ([4, 6], [5, 5])], [([2, 4], [1, 3]), ([], []), ([1, 4], [2, 3])]):
            rows = [row_of(mine, theirs) for mine, theirs in tables]
            for word in plain.all_words(sum(len(row) for row in rows)):
                for picker, many in BOTH:
                    self.assertEqual(picked_value(rows, word, picker=picker, many=many),
                                     played_with_picks(tables, word, picker, many), (tables, word, picker, many))

    def test_all_orders_of_two_small_tables(self):
        for first, second in itertools.product(plain.all_orders(2), plain.all_orders(1) + plain.all_orders(2)[::2]):
            rows = [row_of(*first), row_of(*second)]
            for word in plain.all_words(len(rows[0]) + len(rows[1]))[::3]:
                for picker, many in BOTH:
                    self.assertEqual(picked_value(rows, word, picker=picker, many=many),
                                     played_with_picks([first, second], word, picker, many))

    def test_one_row_has_its_value(self):
        for row in [row for n in range(6) for row in plain.all_rows(n)]:
            for word in plain.all_words(len(row))[::3]:
                for picker, many in BOTH:
                    self.assertEqual(picked_value([row], word, picker=picker, many=many), value(row, word, many=many))
                    self.assertEqual(picked_value([[], row, []], word, picker=picker, many=many),
                                     value(row, word, many=many))

    def test_known_answers(self):
        rows = [[0, 0], [0]]
        self.assertEqual(picked_value(rows, "MTM"), 3)
        self.assertEqual(picked_value([], ""), 0)
        self.assertEqual(picked_value([[], [], [], []], ""), 0)
        self.assertEqual([picked_value([[-1]], "M"), picked_value([[0]], "T"), picked_value([[4]], "T")], [0, 1, 5])

    def test_mine_wishes_for_many_and_the_layer_picks_if_nothing_is_said(self):
        source = random.Random(93)
        different = set()
        for rows in some_rows(94, 120):
            word = "".join(source.choice("MT") for row in rows for _ in row)
            told = {both: picked_value(rows, word, picker=both[0], many=both[1]) for both in BOTH}
            self.assertEqual(picked_value(rows, word), told["layer", "mine"])
            self.assertEqual(picked_value(rows, word, many="theirs"), told["layer", "theirs"])
            self.assertEqual(picked_value(rows, word, picker="answerer"), told["answerer", "mine"])
            self.assertEqual(best_picks(rows, word), best_picks(rows, word, picker="layer", many="mine"))
            different.add((told["layer", "mine"] != told["answerer", "mine"],
                           told["layer", "mine"] != told["layer", "theirs"]))
        self.assertIn((True, True), different)

    def test_12_entries(self):
        source = random.Random(95)
        for sizes in ([3, 3, 3, 3], [6, 6], [12], [4, 4, 4], [1, 9, 1, 1]):
            rows = [source.choice(plain.all_rows(n)) for n in sizes]
            word = "".join(source.choice("MT") for _ in range(12))
            for picker, many in BOTH:
                best = picked_value(rows, word, picker=picker, many=many)
                picks = best_picks(rows, word, picker=picker, many=many)
                self.assertTrue(picks)
                # Whatever is picked first, the value of the choice follows from the rest.
                index = picks[0]
                rest = [row if k != index else plain_strike(row, word[0], many) for k, row in enumerate(rows)]
                won = rows[index][0] + 1 if len(rows[index]) == 1 else 0
                self.assertEqual(won + picked_value(rest, word[1:], picker=picker, many=many), best)


class PicksTest(plain.Case, unittest.TestCase):

    def test_the_choices_that_have_the_value(self):
        source = random.Random(96)
        lengths = set()
        for rows in some_rows(97, 250):
            word = "".join(source.choice("MT") for row in rows for _ in row)
            for picker, many in BOTH:
                found = plain_choices(rows, word, picker, many)
                best = plain_value(rows, word, picker, many)
                expected = [index for index in sorted(found) if found[index] == best]
                self.assertEqual(best_picks(rows, word, picker=picker, many=many), expected, (rows, word))
                lengths.add(len(expected))
        self.assertLessEqual({0, 1, 2, 3}, lengths)

    def test_known_answers(self):
        self.assertEqual(best_picks([[0, 0], [0]], "MTM"), [1])
        self.assertEqual(best_picks([], ""), [])
        self.assertEqual(best_picks([[], []], ""), [])
        self.assertEqual(best_picks([[], [0], [], [0]], "MT"), [1, 3])
        self.assertEqual(best_picks([[], [3]], "T", picker="answerer", many="theirs"), [1])


class CallsTest(plain.Case, unittest.TestCase):

    def test_wrong_words(self):
        for call in (picked_value, best_picks):
            for picker, many in BOTH:
                told = {"picker": picker, "many": many}
                self.raises(BadWord, {"position": 1}, call, [[0], [0, 0]], "Mx", **told)
                self.raises(BadWord, {"position": 2}, call, [[0], [0, 0]], "MT", **told)
                self.raises(BadWord, {"position": 3}, call, [[0], [0, 0]], "MTMT", **told)
                self.raises(BadWord, {"position": 3}, call, [[0], [0, 0]], "MTMm", **told)
                self.raises(BadWord, {"position": 0}, call, [], "M", **told)
                self.raises(BadWord, {"position": 0}, call, [[], []], "T", **told)
                self.raises(BadWord, {"position": 0}, call, [[0]], "", **told)

    def test_arguments_and_what_is_returned(self):
        rows = [[-1, 0], [0], []]
        given = copy.deepcopy(rows)
        first = best_picks(rows, "MTM")
        first.append(9)
        picked_value(rows, "MTM", picker="answerer")
        self.assertEqual(rows, given)
        self.assertEqual(best_picks(rows, "MTM"), first[:-1])


if __name__ == "__main__":
    unittest.main()
