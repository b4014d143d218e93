"""climbrow.desk: points 78 to 80 and the interface."""

import copy
import random
import unittest

import plain
from climbrow.desk import Desk
from climbrow.duels import Duel
from climbrow.errors import BadCard, BadHands, BadText, BadWord, ClimbrowError, DuplicateName, OutOfTurn, UnknownName
from climbrow.guides import Guide
from climbrow.rows import value_of
from climbrow.spans import Span
from climbrow.texts import format_deed, parse_deed

SIDES = ("mine", "theirs")


def try_call(call, *args, **kwargs):
    """What a call returns, or the class and the attributes of the error that it raises."""
    try:
        found = call(*args, **kwargs)
    except ClimbrowError as raised:
        return type(raised), vars(raised)
    return (found.least, found.most) if isinstance(found, Span) else found


def duels_of(journal):
    """The duels that follow from a journal, in the order of their openings."""
    found = {}
    for deed in journal:
        act, name, *more = deed
        if act == "open":
            found[name] = Duel(more[1], more[2], more[0])
        elif act == "close":
            found.pop(name)
        else:
            getattr(found[name], act)(*more)
    return found


class Plain:
    """Point 78 and 79 in plain words: all that is kept are the deeds in force and those to redo."""

    def __init__(self, journal=(), undone=()):
        self.journal, self.undone = list(journal), list(undone)

    def do(self, deed):
        duels, (act, name, *more) = duels_of(self.journal), deed
        if act == "open":
            if name in duels:
                raise DuplicateName(name)
            Duel(more[1], more[2], more[0])
        elif name not in duels:
            raise UnknownName(name)
        elif act != "close":
            getattr(duels[name], act)(*more)
        self.journal, self.undone = [*self.journal, copy.deepcopy(deed)], []

    def undo(self):
        if not self.journal:
            raise OutOfTurn()
        self.undone.append(self.journal.pop())
        return self.undone[-1]

    def redo(self):
        if not self.undone:
            raise OutOfTurn()
        self.journal.append(self.undone.pop())
        return self.journal[-1]

    def run(self, texts):
        trial = Plain(self.journal, self.undone)
        for text in texts:
            trial.do(parse_deed(text))
        self.journal, self.undone = trial.journal, trial.undone
        return len(texts)


def letters_for(duel, source):
    return "".join(source.choice("MT") for _ in range(duel.rounds_left))


def advised(duel, many):
    """Point 80: the card that the plan plays."""
    side, act = duel.due
    guide = Guide(duel.mine, duel.theirs, side, many=many)
    for m, t in duel.pairs:
        guide.saw(m, t)
    return guide.lay() if act == "lay" else guide.answer(duel.open_card[1])


def told(desk):
    """All that a desk tells."""
    found = [list(desk), desk.journal(), try_call(desk.whole_span)]
    for name in desk:
        state = desk.state(name)
        word = "MT" * 20
        found += [state, try_call(desk.span, name), try_call(desk.value, name, word[:len(state[0]) - len(state[3])])]
        found += [try_call(desk.advice, name, many=many) for many in SIDES]
    return found


def all_told(desk):
    """All that a desk tells, also after each deed that can be redone."""
    other, found = desk.twin(), [told(desk)]
    while True:
        try:
            found.append(other.redo())
        except OutOfTurn:
            return found
        found.append(told(other))


def likely_deed(desk, source):
    """A deed that a desk often takes, but not always."""
    names = list(desk)
    if not names or (source.random() < 0.15 and len(names) < 20):
        n = source.choice((0, 1, 2, 3, 3))
        word = "".join(source.choice("MT") for _ in range(source.randint(0, n)))
        name = source.choice(("a", "b", "c", "open", "zzzzzzzzzzzz"))
        theirs = n if source.random() < 0.95 else n + 1
        return ("open", name, word, [source.randint(0, 5) for _ in range(n)], [source.randint(0, 5) for _ in range(theirs)])
    name = source.choice(names) if source.random() < 0.95 else "nobody"
    mine = len(desk.state(name)[0]) if name in names else 1
    act = source.choice(("lay", "answer", "lay", "answer", "call", "call", "draw", "close"))
    if act == "close" and source.random() < 0.6:
        act = "lay"
    more = {"lay": (source.randint(-1, mine),), "answer": (source.randint(0, mine),), "call": (source.choice("MTMTMTx"),),
            "draw": (source.randint(-3, 9), source.randint(-3, 9)), "close": ()}
    return (act, name, *more[act])


class SessionTest(plain.Case, unittest.TestCase):

    def same(self, first, second, *args):
        """Both calls return the same or raise the same; return what came of it."""
        expected = try_call(first, *args)
        self.assertEqual(try_call(second, *args), expected)
        return expected

    def check(self, desk, model, source):
        duels = duels_of(model.journal)
        self.assertEqual(list(desk), list(duels))
        self.assertEqual(desk.journal(), model.journal)
        for name, duel in duels.items():
            self.assertEqual(desk.state(name), (duel.mine, duel.theirs, duel.word, duel.pairs, duel.open_card))
            letters, many = letters_for(duel, source), source.choice(SIDES)
            if duel.open_card is None:
                left = [[hand[k] for k in rest] for hand, rest in zip((duel.mine, duel.theirs), duel.rest())]
                walk = plain.plain_heights(*left)
                span = (duel.won + max(walk), duel.won + len(left[0]) + min(walk))
                self.assertEqual(try_call(desk.span, name), span)
                self.assertEqual(desk.value(name, letters, many=many), duel.won + value_of(*left, letters, many=many))
            else:
                for call in ((desk.span, name), (desk.value, name, letters), (desk.value, name, "x"), (desk.whole_span,)):
                    self.raises(OutOfTurn, {}, *call)
            if duel.due is None:
                self.raises(OutOfTurn, {}, desk.advice, name, many=many)
            else:
                self.assertEqual(desk.advice(name, many=many), advised(duel, many))
        if all(duel.open_card is None for duel in duels.values()):
            spans = [try_call(desk.span, name) for name in duels]
            self.assertEqual(try_call(desk.whole_span), (sum(x for x, _ in spans), sum(x for _, x in spans)))

    def test_long_sessions(self):
        came = set()
        for seed in range(40):
            source = random.Random(seed)
            desk, model = Desk(), Plain()
            for _ in range(source.choice((30, 60, 90))):
                step = source.random()
                if step < 0.72:
                    deed = likely_deed(desk, source)
                    found = self.same(model.do, desk.do, deed)
                    came.add((deed[0], found[0] if found else None))
                elif step < 0.84:
                    came.add(("undo", type(self.same(model.undo, desk.undo)[0])))
                elif step < 0.92:
                    came.add(("redo", type(self.same(model.redo, desk.redo)[0])))
                else:
                    texts = self.some_texts(desk, source)
                    came.add(("run", type(self.same(model.run, desk.run, texts))))
                self.check(desk, model, source)
            self.check_redos(desk, model, source)
        for act in ("call", "lay", "answer", "draw", "close", "open"):
            self.assertIn((act, None), came)
        self.assertLessEqual({("lay", BadCard), ("lay", OutOfTurn), ("answer", BadCard), ("answer", OutOfTurn),
                              ("draw", OutOfTurn), ("draw", UnknownName), ("call", BadWord), ("open", DuplicateName),
                              ("open", BadHands), ("undo", str), ("redo", str), ("redo", type), ("run", int),
                              ("run", tuple)}, came)

    def check_redos(self, desk, model, source):
        """All deeds can be undone and done again, one after the other."""
        while model.journal:
            self.same(model.undo, desk.undo)
            self.check(desk, model, source)
        self.raises(OutOfTurn, {}, desk.undo)
        while model.undone:
            self.same(model.redo, desk.redo)
            self.check(desk, model, source)
        self.raises(OutOfTurn, {}, desk.redo)

    def some_texts(self, desk, source):
        """Texts of deeds that the desk takes one after the other, perhaps with one that it refuses."""
        trial, texts = desk.twin(), []
        for _ in range(source.randint(0, 4)):
            deed = likely_deed(trial, source)
            if not try_call(trial.do, deed):
                texts.append(format_deed(deed))
        if source.random() < 0.3:
            texts.insert(source.randint(0, len(texts)), source.choice(("lay nobody 0", "lay a", "", "close  a", "lay a 07")))
        return texts


class DeedsTest(plain.Case, unittest.TestCase):

    def test_a_play(self):
        desk = Desk()
        self.assertEqual((list(desk), desk.journal(), try_call(desk.whole_span)), ([], [], (0, 0)))
        deeds = [("open", "a", "T", [3, 1], [2, 2]), ("lay", "a", 1), ("answer", "a", 0), ("call", "a", "M"),
                 ("draw", "a", 4, -1), ("lay", "a", 1), ("answer", "a", 2), ("call", "a", "T")]
        states = [([3, 1], [2, 2], "T", [], None), ([3, 1], [2, 2], "T", [], ("theirs", 1)), ([3, 1], [2, 2], "T", [(0, 1)], None),
                  ([3, 1], [2, 2], "TM", [(0, 1)], None), ([3, 1, 4], [2, 2, -1], "TM", [(0, 1)], None),
                  ([3, 1, 4], [2, 2, -1], "TM", [(0, 1)], ("mine", 1)), ([3, 1, 4], [2, 2, -1], "TM", [(0, 1), (1, 2)], None),
                  ([3, 1, 4], [2, 2, -1], "TMT", [(0, 1), (1, 2)], None)]
        for deed, state in zip(deeds, states):
            self.assertIsNone(desk.do(deed))
            self.assertEqual(desk.state("a"), state)
        self.assertEqual(desk.journal(), deeds)
        self.assertEqual((try_call(desk.span, "a"), desk.value("a", "M"), desk.advice("a")), ((3, 3), 3, 0))
        for deed, state in list(zip(deeds, [None, *states]))[::-1]:
            self.assertEqual(desk.undo(), deed)
            if state:
                self.assertEqual(desk.state("a"), state)
        self.assertEqual((list(desk), desk.journal()), ([], []))

    def test_texts(self):
        desk = Desk()
        self.assertEqual(desk.run([]), 0)
        self.assertEqual(desk.run(["open a TM 3 1 | 2 2", "open b - - | -", "lay a 0", "close b"]), 4)
        self.assertEqual(desk.journal(), [("open", "a", "TM", [3, 1], [2, 2]), ("open", "b", "", [], []), ("lay", "a", 0),
                                          ("close", "b")])
        self.assertEqual([desk.undo(), list(desk), desk.undo()], [("close", "b"), ["a", "b"], ("lay", "a", 0)])
        self.assertEqual([desk.run([]), desk.redo(), desk.redo()], [0, ("lay", "a", 0), ("close", "b")])

    def test_one_wrong_text_and_nothing_is_done(self):
        desk = Desk()
        desk.run(["open a TM 3 1 | 2 2", "lay a 0", "answer a 0", "lay a 1"])
        desk.undo()
        before = all_told(desk)
        for text, error, attributes in (("lay", BadText, {"position": 1}), ("lay a 1 ", BadText, {"position": 3}),
                                        ("lay z 1", UnknownName, {"name": "z"}), ("open a - - | -", DuplicateName, {"name": "a"}),
                                        ("open c M 1 | 1 2", BadHands, {"mine_count": 1, "theirs_count": 2}),
                                        ("open c MM 1 | 1", BadWord, {"position": 1}), ("answer a 1", OutOfTurn, {}),
                                        ("lay a 0", BadCard, {"side": "mine", "index": 0}), ("call a M", BadWord, {"position": 2})):
            for texts in ([text], ["open b - 1 | 1", text], ["draw a 1 1", "close a", "open a TM 5 5 | 5 5", "lay a 0", text],
                          [text, "close a"], ["open x - - | -", text, "lay"]):
                if texts[0] == "draw a 1 1" and " a " in text:
                    continue
                self.raises(error, attributes, desk.run, texts)
                self.assertEqual(all_told(desk), before)

    def test_each_text_is_done_before_the_next_one_is_parsed(self):
        desk = Desk()
        self.raises(UnknownName, {"name": "a"}, desk.run, ["lay a 0", "nonsense"])
        self.raises(BadText, {"position": 0}, desk.run, ["open a - - | -", "nonsense", "lay b 0"])
        self.assertEqual(list(desk), [])

    def test_names(self):
        desk = Desk()
        for name in ("a", "open", "lay", "close", "z" * 12):
            desk.do(("open", name, "", [1], [1]))
        self.assertEqual(list(desk), ["a", "open", "lay", "close", "z" * 12])
        self.raises(DuplicateName, {"name": "open"}, desk.do, ("open", "open", "x", [], [1]))
        desk.do(("close", "open"))
        self.raises(UnknownName, {"name": "open"}, desk.do, ("close", "open"))
        self.assertEqual(list(desk), ["a", "lay", "close", "z" * 12])
        desk.do(("open", "open", "T", [2], [3]))
        self.assertEqual(list(desk), ["a", "lay", "close", "z" * 12, "open"])
        self.assertEqual(desk.state("open"), ([2], [3], "T", [], None))
        desk.undo()
        desk.undo()
        self.assertEqual(list(desk), ["a", "open", "lay", "close", "z" * 12])
        self.assertEqual(desk.state("open"), ([1], [1], "", [], None))

    def test_a_name_that_is_used_again(self):
        desk = Desk()
        desk.run(["open a M 1 | 1", "lay a 0", "answer a 0", "close a", "open a TT 5 6 | 7 8", "lay a 1"])
        self.assertEqual(desk.state("a"), ([5, 6], [7, 8], "TT", [], ("theirs", 1)))
        for _ in range(3):
            desk.undo()
        self.assertEqual(desk.state("a"), ([1], [1], "M", [(0, 0)], None))
        desk.do(("draw", "a", 3, 4))
        self.raises(OutOfTurn, {}, desk.redo)
        self.assertEqual(desk.state("a"), ([1, 3], [1, 4], "M", [(0, 0)], None))

    def test_a_duel_with_an_open_card_may_be_closed(self):
        desk = Desk()
        desk.run(["open a M 1 | 1", "lay a 0", "close a"])
        self.assertEqual((list(desk), try_call(desk.whole_span)), ([], (0, 0)))
        desk.undo()
        self.assertEqual(desk.state("a")[4], ("mine", 0))

    def test_20_duels_300_deeds_and_20_late_pairs(self):
        desk, source, names = Desk(), random.Random(191), "abcdefghijklmnopqrst"
        for k, name in enumerate(names):
            desk.do(("open", name, "", [k], [k]))
        for name in names[:5]:
            for _ in range(20):
                desk.do(("draw", name, source.randint(0, 9), source.randint(0, 9)))
                desk.do(("call", name, source.choice("MT")))
            for act in ("lay", "answer", "lay", "answer", "lay", "answer", "lay", "answer"):
                desk.do((act, name, desk.advice(name)))
        for name in names[:10]:
            desk.do(("close", name))
            desk.do(("open", name, "", [], []))
        for name in names[:10]:
            desk.do(("draw", name, 1, 1))
            desk.do(("call", name, "M"))
        self.assertEqual(len(desk.journal()), 300)
        before, other = told(desk), desk.twin()
        for _ in range(300):
            desk.undo()
        self.assertEqual(told(desk), told(Desk()))
        for _ in range(300):
            desk.redo()
        self.assertEqual((told(desk), told(other)), (before, before))

    def test_greater_numbers_than_a_text_takes(self):
        desk = Desk()
        big = 10 ** 30
        desk.do(("open", "a", "", [big] * 41, [-big] * 41))
        desk.do(("draw", "a", -big, big))
        desk.do(("call", "a", "M"))
        self.raises(BadCard, {"side": "mine", "index": 100}, desk.do, ("lay", "a", 100))
        self.assertEqual(desk.state("a")[0], [big] * 41 + [-big])


class WrongDeedsTest(plain.Case, unittest.TestCase):

    def test_what_the_duel_refuses(self):
        desk = Desk()
        desk.run(["open a MT 1 2 3 | 1 2 3", "lay a 0", "answer a 2", "open b M 5 | 5", "lay b 0", "call a M"])
        desk.undo()
        before = all_told(desk)
        for deed, error, attributes in (
                (("open", "a", "x", [1], []), DuplicateName, {"name": "a"}),
                (("open", "c", "x", [1], []), BadHands, {"mine_count": 1, "theirs_count": 0}),
                (("open", "c", "Mx", [1], [1]), BadWord, {"position": 1}),
                (("open", "c", "MM", [1], [1]), BadWord, {"position": 1}),
                (("lay", "c", 0), UnknownName, {"name": "c"}), (("call", "", "x"), UnknownName, {"name": ""}),
                (("close", "c"), UnknownName, {"name": "c"}), (("draw", "c", 1, 1), UnknownName, {"name": "c"}),
                (("answer", "c", -1), UnknownName, {"name": "c"}), (("answer", "a", 0), OutOfTurn, {}),
                (("lay", "a", 2), BadCard, {"side": "theirs", "index": 2}), (("lay", "a", -1), BadCard, {"side": "theirs", "index": -1}),
                (("lay", "b", 0), OutOfTurn, {}), (("answer", "b", 1), BadCard, {"side": "theirs", "index": 1}),
                (("draw", "b", 1, 1), OutOfTurn, {}), (("call", "b", "M"), BadWord, {"position": 1}),
                (("call", "a", "MT"), BadWord, {"position": 2}), (("call", "a", ""), BadWord, {"position": 2})):
            self.raises(error, attributes, desk.do, deed)
            self.assertEqual(all_told(desk), before, deed)

    def test_undo_and_redo_of_nothing(self):
        desk = Desk()
        for _ in range(2):
            self.raises(OutOfTurn, {}, desk.undo)
            self.raises(OutOfTurn, {}, desk.redo)
        desk.do(("open", "a", "", [], []))
        self.raises(OutOfTurn, {}, desk.redo)
        desk.undo()
        self.raises(OutOfTurn, {}, desk.undo)
        self.assertEqual(desk.redo(), ("open", "a", "", [], []))
        self.raises(OutOfTurn, {}, desk.redo)

    def test_a_new_deed_removes_what_could_be_redone(self):
        for new in (lambda desk: desk.do(("call", "a", "M")), lambda desk: desk.run(["call a M"])):
            desk = Desk()
            desk.run(["open a - 1 2 | 1 2", "call a T", "lay a 0"])
            desk.undo()
            desk.undo()
            self.raises(UnknownName, {"name": "z"}, desk.do, ("close", "z"))
            self.assertEqual(desk.redo(), ("call", "a", "T"))
            desk.undo()
            new(desk)
            self.raises(OutOfTurn, {}, desk.redo)
            self.assertEqual(desk.journal()[1:], [("call", "a", "M")])

    def test_questions(self):
        desk = Desk()
        desk.run(["open a MM 1 2 | 1 2", "open b M 5 | 5", "lay b 0", "open c - 7 | 7"])
        before = all_told(desk)
        for call, *more in ((desk.state,), (desk.span,), (desk.value, "x"), (desk.advice,)):
            self.raises(UnknownName, {"name": "z"}, call, "z", *more)
            self.raises(UnknownName, {"name": ""}, call, "", *more)
        self.raises(OutOfTurn, {}, desk.span, "b")
        self.raises(OutOfTurn, {}, desk.value, "b", "xx")
        self.raises(OutOfTurn, {}, desk.whole_span)
        self.raises(OutOfTurn, {}, desk.advice, "c")
        self.assertEqual((desk.advice("b"), desk.state("b")), (0, ([5], [5], "M", [], ("mine", 0))))
        for word, position in (("M", 1), ("MMM", 2), ("xM", 0), ("Mx", 1), ("", 0)):
            for many in SIDES:
                self.raises(BadWord, {"position": position}, desk.value, "a", word, many=many)
        self.assertEqual(all_told(desk), before)
        desk.do(("answer", "b", 0))
        self.raises(OutOfTurn, {}, desk.advice, "b")
        self.assertEqual((try_call(desk.span, "b"), desk.value("b", ""), try_call(desk.whole_span)), ((1, 1), 1, (3, 4)))

    def test_mine_wishes_for_many_if_nothing_is_said(self):
        desk = Desk()
        desk.do(("open", "a", "TTM", [1, 1, 2], [1, 1, 2]))
        self.assertEqual([desk.value("a", "TTM"), desk.value("a", "TTM", many="mine"), desk.value("a", "TTM", many="theirs")],
                         [3, 3, 2])
        self.assertEqual([desk.advice("a"), desk.advice("a", many="mine"), desk.advice("a", many="theirs")], [1, 1, 0])
        desk.do(("lay", "a", 2))
        self.assertEqual([desk.advice("a"), desk.advice("a", many="mine"), desk.advice("a", many="theirs")], [2, 2, 1])


class ListsTest(plain.Case, unittest.TestCase):

    def test_a_deed_that_was_passed_may_change(self):
        desk = Desk()
        deed = ("open", "a", "", [1, 2], [3, 4])
        desk.do(deed)
        deed[3].append(9)
        deed[4].clear()
        expected = ("open", "a", "", [1, 2], [3, 4])
        self.assertEqual((desk.journal(), desk.state("a")[:2]), ([expected], ([1, 2], [3, 4])))
        self.assertEqual([desk.undo(), desk.redo()], [expected, expected])
        self.assertEqual(desk.state("a")[:2], ([1, 2], [3, 4]))

    def test_what_is_returned_may_be_modified(self):
        desk = Desk()
        desk.run(["open a MM 1 2 | 3 4", "lay a 0", "answer a 0"])
        before = all_told(desk)
        for returned in (desk.journal(), desk.state("a"), desk.journal()[0], desk.twin().journal()):
            for part in plain_lists(returned):
                part.clear()
            self.assertEqual(all_told(desk), before)
        for _ in range(3):
            deed = desk.undo()
        for part in plain_lists(deed):
            part.append(77)
        again = desk.redo()
        self.assertEqual(again, ("open", "a", "MM", [1, 2], [3, 4]))
        for part in plain_lists(again):
            part.append(77)
        desk.redo()
        desk.redo()
        self.assertEqual(all_told(desk), before)
        self.assertEqual([desk.undo() for _ in range(3)][2], ("open", "a", "MM", [1, 2], [3, 4]))

    def test_no_two_lists_are_the_same(self):
        desk = Desk()
        hand = [1, 2]
        desk.do(("open", "a", "", hand, hand))
        desk.do(("open", "b", "", hand, hand))
        lists = plain_lists(desk.journal()) + plain_lists(desk.state("a")) + plain_lists(desk.state("b"))
        lists += plain_lists(desk.journal()) + plain_lists(desk.undo()) + plain_lists(desk.redo()) + [hand]
        self.assertEqual(len({id(part) for part in lists}), len(lists))
        desk.do(("draw", "a", 3, 4))
        self.assertEqual((desk.state("a")[:2], hand), (([1, 2, 3], [1, 2, 4]), [1, 2]))

    def test_texts_stay_as_they_were(self):
        texts = ["open a - 1 | 1", "close a"]
        Desk().run(texts)
        self.assertEqual(texts, ["open a - 1 | 1", "close a"])


def plain_lists(found):
    inner = [part for entry in found for part in plain_lists(entry)] if isinstance(found, (list, tuple)) else []
    return ([found] if isinstance(found, list) else []) + inner


class TwinTest(plain.Case, unittest.TestCase):

    def test_the_same_now_and_no_influence_later(self):
        for seed in range(25):
            source = random.Random(seed + 500)
            desk = Desk()
            for _ in range(25):
                try_call(desk.do, likely_deed(desk, source))
                if source.random() < 0.2:
                    try_call(source.choice((desk.undo, desk.redo)))
            for _ in range(source.randint(0, 3)):
                try_call(desk.undo)
            other = desk.twin()
            self.assertIsInstance(other, Desk)
            before = all_told(desk)
            self.assertEqual(all_told(other), before)
            for first, second in ((other, desk), (desk, other)):
                # Deeds go on at one of the two, in all ways; the other one stays as it was.
                kept = all_told(second)
                for _ in range(12):
                    try_call(source.choice((first.undo, first.redo)))
                    try_call(first.do, likely_deed(first, source))
                    try_call(first.run, ["open q - 1 | 1", "draw q 1 1"])
                self.assertEqual(all_told(second), kept)
                self.assertNotEqual(all_told(first), before)

    def test_a_desk_with_this_journal_has_the_same_duels(self):
        for seed in range(15):
            source = random.Random(seed + 700)
            desk, other, third = Desk(), Desk(), Desk()
            for _ in range(30):
                try_call(desk.do, likely_deed(desk, source))
                if source.random() < 0.2:
                    try_call(source.choice((desk.undo, desk.redo)))
            for deed in desk.journal():
                other.do(deed)
            self.assertEqual(third.run([format_deed(deed) for deed in desk.journal()]), len(desk.journal()))
            self.assertEqual((told(other), told(third)), (told(desk), told(desk)))


if __name__ == "__main__":
    unittest.main()
