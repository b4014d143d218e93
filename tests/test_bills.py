"""climbrow.bills: points 41, 42 (with 17 and 37) and the interface."""

import itertools
import unittest

import plain
from climbrow.bills import rises_and_falls, slips
from climbrow.errors import BadCard, BadHands, BadWord
from climbrow.rows import value_of
from climbrow.spans import least, most

SIDES = ("mine", "theirs")
HANDS = plain.small_hands(1) + plain.small_hands(2) + plain.all_orders(3) + plain.all_orders(4)[::13]


def courses(n, count):
    """All courses of so many pairs."""
    return [list(zip(my_cards, their_cards)) for my_cards in itertools.permutations(range(n), count)
            for their_cards in itertools.permutations(range(n), count)]


def left_after(mine, theirs, course):
    """The cards that are left after the pairs of a course."""
    gone, their_gone = [m for m, _ in course], [t for _, t in course]
    return ([number for k, number in enumerate(mine) if k not in gone],
            [number for k, number in enumerate(theirs) if k not in their_gone])


class RisesAndFallsTest(plain.Case, unittest.TestCase):

    def test_against_the_results_of_all_pairings(self):
        for mine, theirs in HANDS:
            n = len(mine)
            for course in courses(n, n)[::3] + courses(n, n - 1)[::7]:
                expected = []
                for at, (m, t) in enumerate(course):
                    before = plain.all_results(*left_after(mine, theirs, course[:at]))
                    after = plain.all_results(*left_after(mine, theirs, course[:at + 1]))
                    pair = plain.won(mine, theirs, m, t)
                    expected.append((min(after) + pair - min(before), max(before) - max(after) - pair))
                self.assertEqual(rises_and_falls(mine, theirs, course), expected)

    def test_each_one_is_0_or_1(self):
        for mine, theirs in HANDS:
            for course in courses(len(mine), len(mine))[::2]:
                found = rises_and_falls(mine, theirs, course)
                self.assertLessEqual({number for both in found for number in both}, {0, 1})
                self.assertTrue(all(type(both) is tuple and len(both) == 2 for both in found))

    def test_the_sums_do_not_depend_on_the_order(self):
        for mine, theirs in HANDS:
            n = len(mine)
            for count in range(1, n + 1):
                sums = {}
                for course in courses(n, count):
                    found = rises_and_falls(mine, theirs, course)
                    told = sum(rise for rise, _ in found), sum(fall for _, fall in found)
                    self.assertEqual(sums.setdefault(frozenset(course), told), told)

    def test_a_whole_course_adds_up_to_the_width(self):
        longer = plain.some_hands(51, 12, 40, 0, 9) + [(list(range(40)), list(range(40)))]
        for mine, theirs in HANDS + longer:
            n = len(mine)
            results = plain.all_results(mine, theirs) if n < 5 else [least(mine, theirs), most(mine, theirs)]
            for seed in range(3):
                course = list(zip(plain.shuffled(seed, n), plain.shuffled(seed + 7, n)))
                found = rises_and_falls(mine, theirs, course)
                self.assertEqual(len(found), n)
                self.assertEqual(sum(rise + fall for rise, fall in found), max(results) - min(results))

    def test_known_answers(self):
        mine, theirs = [1, 1, 2], [1, 1, 2]
        self.assertEqual(rises_and_falls(mine, theirs, [(1, 0)]), [(0, 0)])
        self.assertEqual(rises_and_falls(mine, theirs, [(2, 2)]), [(1, 0)])
        self.assertEqual(rises_and_falls(mine, theirs, [(2, 0), (1, 2)]), [(0, 1), (0, 0)])
        self.assertEqual(rises_and_falls([5], [5], [(0, 0)]), [(0, 0)])

    def test_empty_courses_and_empty_hands(self):
        self.assertEqual(rises_and_falls([], [], []), [])
        self.assertEqual(rises_and_falls([1, 2], [1, 2], []), [])

    def test_wrong_calls(self):
        self.raises(BadHands, {"mine_count": 1, "theirs_count": 2}, rises_and_falls, [1], [1, 2], [(7, 7)])
        hands = [1, 2, 3], [1, 2, 3]
        for index in (-1, 3, 9):
            self.raises(BadCard, {"side": "mine", "index": index}, rises_and_falls, *hands, [(index, 8)])
            self.raises(BadCard, {"side": "theirs", "index": index}, rises_and_falls, *hands, [(1, 1), (0, index)])
        self.raises(BadCard, {"side": "mine", "index": 1}, rises_and_falls, *hands, [(1, 0), (1, 0)])
        self.raises(BadCard, {"side": "theirs", "index": 0}, rises_and_falls, *hands, [(1, 0), (2, 0), (9, 9)])
        self.raises(BadCard, {"side": "mine", "index": 0}, rises_and_falls, [], [], [(0, 0)])
        whole = [(0, 0), (1, 1), (2, 2)]
        self.raises(BadCard, {"side": "mine", "index": 2}, rises_and_falls, *hands, whole + [(2, 2)])


class SlipsTest(plain.Case, unittest.TestCase):

    def expected(self, mine, theirs, word, course, many):
        """The slips of a course, by trying all plays of both sides."""
        found = []
        for at, (m, t) in enumerate(course):
            left = left_after(mine, theirs, course[:at])
            my_left = [k for k in range(len(mine)) if k not in [pair[0] for pair in course[:at]]]
            their_left = [k for k in range(len(theirs)) if k not in [pair[1] for pair in course[:at]]]
            m, t = my_left.index(m), their_left.index(t)
            before = plain.played(*left, word[at:], many)
            made = plain.worth(*left, m, t, word[at + 1:], many)
            if word[at] == "M":
                worths = [plain.worth(*left, m, k, word[at + 1:], many) for k in range(len(their_left))]
            else:
                worths = [plain.worth(*left, k, t, word[at + 1:], many) for k in range(len(my_left))]
            laid = max(worths) if (word[at] == "M") == (many == "theirs") else min(worths)
            found.append((abs(before - laid), abs(laid - made)))
        return found

    def test_against_all_plays(self):
        for mine, theirs in plain.small_hands(1) + plain.small_hands(2, 2) + plain.all_orders(3)[::2]:
            n = len(mine)
            for word, many in itertools.product(plain.all_words(n), SIDES):
                for course in courses(n, n)[::2] + courses(n, n - 1)[::5]:
                    self.assertEqual(slips(mine, theirs, word, course, many=many),
                                     self.expected(mine, theirs, word, course, many))

    def test_they_are_0_or_1_and_add_up(self):
        for mine, theirs in HANDS:
            n = len(mine)
            for word, many in itertools.product(plain.all_words(n), SIDES):
                for course in courses(n, n)[::11] + courses(n, n - 1)[::23]:
                    self.check_sums(mine, theirs, word, course, many)

    def test_longer_courses_add_up(self):
        for mine, theirs in plain.some_hands(52, 12, 40, 0, 9):
            n = len(mine)
            course = list(zip(plain.shuffled(1, n), plain.shuffled(2, n)))
            for word, many, count in itertools.product(("M" * n, "T" * n, ("MTT" * n)[:n]), SIDES, (n, n // 2)):
                self.check_sums(mine, theirs, word, course[:count], many)

    def check_sums(self, mine, theirs, word, course, many):
        found = slips(mine, theirs, word, course, many=many)
        self.assertEqual(len(found), len(course))
        self.assertLessEqual({number for both in found for number in both}, {0, 1})
        by_side = {"mine": 0, "theirs": 0}
        for letter, (laid, answered) in zip(word, found):
            by_side["mine" if letter == "M" else "theirs"] += laid
            by_side["theirs" if letter == "M" else "mine"] += answered
        other = "theirs" if many == "mine" else "mine"
        left = left_after(mine, theirs, course)
        end = (sum(plain.won(mine, theirs, m, t) for m, t in course)
               + value_of(*left, word[len(course):], many=many))
        self.assertEqual(value_of(mine, theirs, word, many=many) - by_side[many] + by_side[other], end)

    def test_known_answers(self):
        mine, theirs = [1, 1, 2], [1, 1, 2]
        self.assertEqual(slips(mine, theirs, "TTM", [(0, 2), (1, 1), (2, 0)]), [(0, 1), (0, 0), (0, 0)])
        self.assertEqual(slips(mine, theirs, "TTM", [(0, 2), (1, 1), (2, 0)], many="theirs"),
                         [(0, 0), (0, 0), (0, 0)])
        self.assertEqual(slips(mine, theirs, "MMT", [(2, 1), (1, 0)]), [(0, 0), (0, 0)])

    def test_many_is_mine_if_nothing_is_said(self):
        found = []
        for course in courses(3, 3):
            told = [slips([1, 3, 5], [2, 4, 6], "TMM", course, many=many) for many in SIDES]
            self.assertEqual(slips([1, 3, 5], [2, 4, 6], "TMM", course), told[0])
            found.append(told[0] != told[1])
        self.assertIn(True, found)

    def test_empty_courses_and_empty_hands(self):
        self.assertEqual(slips([], [], "", []), [])
        self.assertEqual(slips([1, 2], [1, 2], "MT", [], many="theirs"), [])
        self.assertEqual(slips([2], [3], "M", [(0, 0)]), [(0, 0)])

    def test_errors_in_their_order(self):
        self.raises(BadHands, {"mine_count": 2, "theirs_count": 1}, slips, [1, 2], [1], "x", [(9, 9)])
        hands = [1, 2], [1, 2]
        self.raises(BadWord, {"position": 1}, slips, *hands, "Mx", [(9, 9)])
        self.raises(BadWord, {"position": 1}, slips, *hands, "M", [(0, 0)])
        self.raises(BadWord, {"position": 2}, slips, *hands, "MTM", [(9, 9)])
        self.raises(BadWord, {"position": 0}, slips, *hands, "", [])
        self.raises(BadWord, {"position": 0}, slips, [], [], "T", [])
        for many in SIDES:
            self.raises(BadCard, {"side": "mine", "index": 2}, slips, *hands, "MT", [(2, 5)], many=many)
            self.raises(BadCard, {"side": "theirs", "index": -1}, slips, *hands, "MT", [(0, -1)], many=many)
            self.raises(BadCard, {"side": "mine", "index": 0}, slips, *hands, "TT", [(0, 1), (0, 1)], many=many)
            self.raises(BadCard, {"side": "theirs", "index": 1}, slips, *hands, "TT", [(0, 1), (1, 1)], many=many)
            self.raises(BadCard, {"side": "mine", "index": 0}, slips, *hands, "TT",
                        [(0, 1), (1, 0), (0, 0)], many=many)


if __name__ == "__main__":
    unittest.main()
