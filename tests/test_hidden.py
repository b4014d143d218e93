"""climbrow.hidden: points 57 to 60 and the interface."""

import copy
import itertools
import random
import unittest

import plain
from climbrow.errors import BadBounds, BadCard, BadHands, BadWord, OutOfTurn, Unreachable
from climbrow.guides import Guide
from climbrow.hidden import HiddenGuide, hand_for, hoped_value, look, sure_value

VALUES = (sure_value, hoped_value)


def best(mine, theirs, word):
    return plain.played(mine, theirs, word, "mine")


def hands_within(lows, highs):
    return [list(hand) for hand in itertools.product(*[range(low, high + 1) for low, high in zip(lows, highs)])]


def some_bounds(seed, count, longest, greatest=5):
    """Hands of mine with bounds for theirs: wide ones, narrow ones and known numbers."""
    source = random.Random(seed)
    found = []
    for _ in range(count):
        n = source.randint(0, longest)
        lows = [source.randint(0, greatest) for _ in range(n)]
        highs = [low + source.choice((0, 0, 1, 2, 3)) for low in lows]
        found.append(([source.randint(0, greatest + 1) for _ in range(n)], lows, highs))
    return found


def some_word(source, n):
    return "".join(source.choice("MT") for _ in range(n))


class ValuesTest(plain.Case, unittest.TestCase):

    def test_what_mine_can_hold_to_whatever_the_numbers_are(self):
        for mine, lows, highs in some_bounds(111, 120, 3):
            for word in plain.all_words(len(mine)):
                values = [best(mine, theirs, word) for theirs in hands_within(lows, highs)]
                self.assertEqual(sure_value(mine, lows, highs, word), min(values))
                self.assertEqual(hoped_value(mine, lows, highs, word), max(values))
                self.assertEqual(min(values), best(mine, highs, word))

    def test_known_numbers(self):
        for mine, theirs in plain.small_hands(2) + plain.all_orders(3) + [([], [])]:
            for word in plain.all_words(len(mine)):
                self.assertEqual([call(mine, theirs, list(theirs), word) for call in VALUES],
                                 [best(mine, theirs, word)] * 2)

    def test_known_answers(self):
        mine, lows, highs = [1, 1, 2], [0, 1, 2], [1, 1, 5]
        self.assertEqual([sure_value(mine, lows, highs, "TTM"), hoped_value(mine, lows, highs, "TTM")], [2, 3])
        self.assertEqual([sure_value([5], [plain.LOW], [plain.HIGH], "T"), hoped_value([5], [plain.LOW], [plain.HIGH], "T")],
                         [0, 1])
        self.assertEqual([call([], [], [], "") for call in VALUES], [0, 0])
        self.assertEqual([call([7] * 40, [7] * 40, [8] * 40, "MT" * 20) for call in VALUES], [0, 40])


class HandForTest(plain.Case, unittest.TestCase):

    def test_the_hand_with_the_fewest_lowered_numbers_from_the_beginning(self):
        widths = set()
        for mine, lows, highs in some_bounds(112, 200, 4) + [([1, 2, 3], [0, 0, 0], [9, 9, 9])]:
            for word in plain.all_words(len(mine))[::2]:
                hands = [lows[:k] + highs[k:] for k in range(len(mine) + 1)]
                values = [best(mine, theirs, word) for theirs in hands]
                for wanted in range(values[0], values[-1] + 1):
                    self.assertEqual(hand_for(mine, lows, highs, word, wanted), hands[values.index(wanted)])
                widths.add(values[-1] - values[0])
                for wanted in (values[0] - 1, values[-1] + 1, -5, 50):
                    self.raises(Unreachable, {"wanted": wanted, "lowest": values[0], "highest": values[-1]},
                                hand_for, mine, lows, highs, word, wanted)
        self.assertLessEqual({0, 1, 2, 3}, widths)

    def test_longer_hands(self):
        source = random.Random(113)
        for mine, lows, highs in some_bounds(114, 15, 40, 30):
            word = some_word(source, len(mine))
            hands = [lows[:k] + highs[k:] for k in range(len(mine) + 1)]
            values = [sure_value(mine, theirs, theirs, word) for theirs in hands]
            self.assertEqual((values[0], values[-1]), (sure_value(mine, lows, highs, word),
                                                       hoped_value(mine, lows, highs, word)))
            for wanted in range(values[0], values[-1] + 1):
                self.assertEqual(hand_for(mine, lows, highs, word, wanted), hands[values.index(wanted)])

    def test_edges(self):
        self.assertEqual(hand_for([], [], [], "", 0), [])
        self.raises(Unreachable, {"wanted": 1, "lowest": 0, "highest": 0}, hand_for, [], [], [], "", 1)
        highs = [3, 3]
        found = hand_for([1, 2], [3, 3], highs, "MT", 0)
        self.assertEqual(found, [3, 3])
        found.append(1)
        self.assertEqual(highs, [3, 3])


class LookTest(plain.Case, unittest.TestCase):

    def test_both_bounds_are_the_number(self):
        for mine, lows, highs in some_bounds(115, 60, 4):
            for index, (low, high) in enumerate(zip(lows, highs)):
                for number in range(low, high + 1):
                    expected = [lows[:index] + [number] + lows[index + 1:], highs[:index] + [number] + highs[index + 1:]]
                    self.assertEqual(look(mine, lows, highs, index, number), tuple(expected))

    def test_what_a_look_does_to_the_values(self):
        changes = set()
        for mine, lows, highs in some_bounds(116, 60, 4):
            for word in plain.all_words(len(mine))[::3]:
                sure, hoped = [call(mine, lows, highs, word) for call in VALUES]
                for index, (low, high) in enumerate(zip(lows, highs)):
                    for number in range(low, high + 1):
                        new_lows, new_highs = look(mine, lows, highs, index, number)
                        new_sure, new_hoped = [call(mine, new_lows, new_highs, word) for call in VALUES]
                        changes.add((new_sure - sure, new_hoped - hoped))
        self.assertLessEqual(changes, {(0, 0), (1, 0), (0, -1), (1, -1)})
        self.assertLessEqual({(0, 0), (1, 0), (0, -1)}, changes)

    def test_new_lists(self):
        lows, highs = [1, 2], [3, 2]
        for number in (1, 2, 3):
            new_lows, new_highs = look([5, 5], lows, highs, 0, number)
            new_lows.append(1)
            new_highs.clear()
            self.assertEqual((lows, highs), ([1, 2], [3, 2]))
        known = [4]
        found = look([1], known, known, 0, 4)
        self.assertEqual(found, ([4], [4]))
        found[0].append(1)
        self.assertEqual((known, found[1]), ([4], [4]))

    def test_wrong_looks(self):
        lows, highs = [1, plain.LOW], [3, plain.HIGH]
        for index in (-1, 2, -2):
            self.raises(BadCard, {"side": "theirs", "index": index}, look, [0, 0], lows, highs, index, 77)
        for number in (0, 4, -3):
            self.raises(BadBounds, {"index": 0}, look, [0, 0], lows, highs, 0, number)
        self.raises(BadBounds, {"index": 1}, look, [0, 0], lows, highs, 1, plain.HIGH + 1)
        self.assertEqual(look([0, 0], lows, highs, 1, plain.LOW), ([1, plain.LOW], [3, plain.LOW]))
        self.assertEqual(look([0, 0], lows, highs, 1, plain.HIGH), ([1, plain.HIGH], [3, plain.HIGH]))
        self.raises(BadCard, {"side": "theirs", "index": 0}, look, [], [], [], 0, 0)


class BoundsTest(plain.Case, unittest.TestCase):

    def bad(self, error, told, mine, lows, highs):
        """Each function, and the creation of a guide, raises this before all else."""
        for call in VALUES:
            self.raises(error, told, call, mine, lows, highs, "x")
        self.raises(error, told, hand_for, mine, lows, highs, "MMMMM", 99)
        self.raises(error, told, look, mine, lows, highs, 99, 99)
        self.raises(error, told, HiddenGuide, mine, lows, highs)

    def test_bounds_of_different_lengths(self):
        self.bad(BadBounds, {"index": 1}, [1, 2], [1], [1, 2])
        self.bad(BadBounds, {"index": 2}, [1, 2], [1, 2, 3], [1, 2])
        self.bad(BadBounds, {"index": 0}, [], [], [5])
        self.bad(BadBounds, {"index": 0}, [], [5], [])
        # The lengths come before bounds that cross.
        self.bad(BadBounds, {"index": 2}, [1, 2], [9, 9], [1, 2, 3])

    def test_bounds_that_cross(self):
        self.bad(BadBounds, {"index": 1}, [1, 2, 3], [1, 4, 9], [1, 3, 3])
        self.bad(BadBounds, {"index": 0}, [1], [2], [1])
        self.bad(BadBounds, {"index": 2}, [1], [1, 1, 1], [1, 1, 0])

    def test_hands_of_different_lengths(self):
        self.bad(BadHands, {"mine_count": 1, "theirs_count": 2}, [1], [1, 1], [2, 2])
        self.bad(BadHands, {"mine_count": 1, "theirs_count": 0}, [1], [], [])

    def test_wrong_words(self):
        for call, more in ((sure_value, ()), (hoped_value, ()), (hand_for, (99,))):
            self.raises(BadWord, {"position": 1}, call, [1, 2], [1, 2], [2, 3], "M", *more)
            self.raises(BadWord, {"position": 2}, call, [1, 2], [1, 2], [2, 3], "MTM", *more)
            self.raises(BadWord, {"position": 2}, call, [1, 2], [1, 2], [2, 3], "MTm", *more)
            self.raises(BadWord, {"position": 0}, call, [], [], [], "T", *more)


def shown(guide, n, left):
    """All that a guide tells."""
    return (guide.won, guide.lay() if left else None, [guide.answer(t) for t in left],
            [guide.promise(word) for word in plain.all_words(n)])


class GuideTest(plain.Case, unittest.TestCase):

    def test_it_plays_as_if_their_hand_were_the_upper_bounds(self):
        source = random.Random(117)
        for mine, lows, highs in some_bounds(118, 60, 6) + some_bounds(119, 3, 40, 30):
            guide, plan = HiddenGuide(mine, lows, highs), Guide(mine, highs, "mine")
            my_left, their_left, won = list(range(len(mine))), list(range(len(mine))), 0
            while my_left:
                self.assertEqual(guide.lay(), plan.lay())
                self.assertEqual([guide.answer(t) for t in their_left], [plan.answer(t) for t in their_left])
                m, t = source.choice(my_left), source.choice(their_left)
                number = source.randint(lows[t], highs[t])
                self.assertIsNone(guide.saw(m, t, number))
                plan.saw(m, t)
                my_left.remove(m)
                their_left.remove(t)
                won += mine[m] >= number
                self.assertEqual(guide.won, won)
                word = some_word(source, len(my_left))
                rest = [mine[k] for k in my_left], [lows[k] for k in their_left], [highs[k] for k in their_left]
                self.assertEqual(guide.promise(word), won + sure_value(*rest, word))
            self.raises(OutOfTurn, {}, guide.lay)

    def test_the_promise_never_decreases(self):
        for mine, lows, highs in some_bounds(120, 40, 3) + [([1, 3, 5], [0, 2, 4], [2, 4, 6])]:
            self.follow(HiddenGuide(mine, lows, highs), mine, lows, highs, list(range(len(mine))))

    def follow(self, guide, mine, lows, highs, left):
        """Try all plays and all numbers of theirs, as long as mine follows the plan."""
        if not left:
            return
        made = [("M", guide.lay(), t) for t in left] + [("T", guide.answer(t), t) for t in left]
        for letter, m, t in made:
            before = {word: guide.promise(letter + word) for word in plain.all_words(len(left) - 1)}
            for number in range(lows[t], highs[t] + 1):
                later = copy.deepcopy(guide)
                later.saw(m, t, number)
                for word, promise in before.items():
                    self.assertGreaterEqual(later.promise(word), promise)
                self.follow(later, mine, lows, highs, [k for k in left if k != t])

    def test_a_pair_counts_by_the_true_number(self):
        guide = HiddenGuide([3, 3], [1, 1], [4, 4])
        self.assertEqual(guide.won, 0)
        guide.saw(0, 1, 3)
        self.assertEqual((guide.won, guide.promise("M")), (1, 1))
        guide.saw(1, 0, 4)
        self.assertEqual((guide.won, guide.promise("")), (1, 1))

    def test_known_answers(self):
        guide = HiddenGuide([1, 1, 2], [0, 1, 1], [1, 1, 2])
        self.assertEqual((guide.lay(), [guide.answer(t) for t in range(3)], guide.promise("TTM")), (1, [0, 0, 2], 3))
        self.assertEqual((HiddenGuide([], [], []).won, HiddenGuide([], [], []).promise("")), (0, 0))

    def test_lists_that_were_passed_may_change(self):
        mine, lows, highs = [1, 4], [1, 2], [3, 5]
        guide = HiddenGuide(mine, lows, highs)
        before = shown(guide, 2, [0, 1])
        mine.clear()
        lows[0], highs[0], highs[1] = 50, 60, 3
        self.assertEqual(shown(guide, 2, [0, 1]), before)
        guide.saw(1, 0, 1)
        guide.saw(0, 1, 5)
        self.assertEqual(guide.won, 1)

    def test_wrong_calls_change_nothing(self):
        guide = HiddenGuide([1, 4, 2], [1, 2, 0], [3, 5, 0])
        guide.saw(1, 2, 0)
        before = shown(guide, 2, [0, 1])
        for index in (-1, 3, 2):
            self.raises(BadCard, {"side": "theirs", "index": index}, guide.answer, index)
            self.raises(BadCard, {"side": "theirs", "index": index}, guide.saw, 0, index, 99)
        for index in (-1, 3, 1):
            self.raises(BadCard, {"side": "mine", "index": index}, guide.saw, index, 2, 99)
        for number in (0, 4, plain.HIGH):
            self.raises(BadBounds, {"index": 0}, guide.saw, 2, 0, number)
        self.raises(BadBounds, {"index": 1}, guide.saw, 2, 1, 1)
        self.raises(BadWord, {"position": 1}, guide.promise, "M")
        self.raises(BadWord, {"position": 2}, guide.promise, "MMM")
        self.raises(BadWord, {"position": 0}, guide.promise, "xM")
        self.assertEqual(shown(guide, 2, [0, 1]), before)
        for index in (0, -1):
            self.raises(BadCard, {"side": "theirs", "index": index}, HiddenGuide([], [], []).answer, index)
        self.raises(OutOfTurn, {}, HiddenGuide([], [], []).lay)


if __name__ == "__main__":
    unittest.main()
