"""climbrow.texts: points 75 to 77 and the interface."""

import copy
import random
import re
import unittest

import plain
from climbrow.errors import BadText
from climbrow.texts import format_deed, parse_deed

NAME, WORD, LETTER = r"[a-z]{1,12}", r"-|[MT]{1,40}", r"[MT]"
NUMBER, INDEX, BAR, NONE = r"0|-?[1-9][0-9]{0,15}", r"[0-9]|[1-9][0-9]", r"\|", r"-"
FORMS = [["call", NAME, LETTER], ["lay", NAME, INDEX], ["answer", NAME, INDEX], ["draw", NAME, NUMBER, NUMBER],
         ["close", NAME]]


def hand_forms(longest):
    return [[NONE]] + [[NUMBER] * count for count in range(1, min(longest, 40) + 1)]


def forms(longest):
    """All forms of texts of not much more than so many tokens, as lists of patterns."""
    opening = [["open", NAME, WORD, *first, BAR, *second] for first in hand_forms(longest) for second in hand_forms(longest)]
    return FORMS + opening


def fits(token, pattern):
    if re.fullmatch(pattern, token, re.ASCII) is None:
        return False
    return pattern != NUMBER or abs(int(token)) <= 10 ** 15


def wrong_position(text, known):
    """Point 77: the position at which the text is wrong, or None."""
    tokens = text.split(" ")
    left = known
    for position, token in enumerate(tokens):
        left = [form for form in left if len(form) > position and fits(token, form[position])]
        if not left:
            return position
    return None if any(len(form) == len(tokens) for form in left) else len(tokens)


def some_deed(source, longest=4):
    name = "".join(source.choice("abcxyz") for _ in range(source.choice((1, 2, 5, 12))))
    number = [source.choice((0, 1, -1, 7, -40, plain.LOW, plain.HIGH, source.randint(-99, 99))) for _ in range(2)]
    word = "".join(source.choice("MT") for _ in range(source.choice((0, 1, 3, 40))))
    hands = [[source.randint(-9, 20) for _ in range(source.randint(0, longest))] for _ in range(2)]
    index = source.choice((0, 1, 9, 10, 39, 99))
    return source.choice([("open", name, word, *hands), ("call", name, source.choice("MT")), ("lay", name, index),
                          ("answer", name, index), ("draw", name, *number), ("close", name)])


def changed_texts(text, source):
    """Texts that differ from a text a little, in a token or in the number of tokens."""
    tokens = text.split(" ")
    found = [text + " ", " " + text, text.replace(" ", "  ", 1), text + " 0", text + " -", text + " | 3"]
    for position, token in enumerate(tokens):
        others = ["", "0", "-", "|", "-0", "00", "01", "1", "-1", "100", "99", "+1", "--1", "1-", "M", "MT", "m", "a", "A", "lay",
                  token + token, token[:-1], token + "\n", token.upper(), token + "x", "1" * 17, "9" * 16, str(10 ** 15 + 1)]
        found += [" ".join(tokens[:position] + [other] + tokens[position + 1:]) for other in source.sample(others, 9)]
        found += [" ".join(tokens[:position]), " ".join(tokens[:position] + tokens[position + 1:]),
                  " ".join(tokens[:position] + [token] + tokens[position:])]
    return found


class RoundTest(plain.Case, unittest.TestCase):

    def test_from_deeds_to_texts_and_back(self):
        source = random.Random(181)
        for _ in range(1500):
            deed = some_deed(source, source.choice((1, 4, 40)))
            given = copy.deepcopy(deed)
            text = format_deed(given)
            self.assertEqual(given, deed)
            self.assertIs(type(text), str)
            found = parse_deed(text)
            self.assertEqual(found, deed)
            self.assertIs(type(found), tuple)
            self.assertEqual([type(part) for part in found], [type(part) for part in deed])

    def test_from_texts_to_deeds_and_back(self):
        for text in ("open a TM 3 1 | 2 2", "open b - - | -", "draw a 4 -1", "close abcdefghijkl", "lay open 0", "answer z 99",
                     "call lay T", "open open M -5 | 0", "open close - 1 2 3 | -", "open draw MMT - | 4 5",
                     "draw call 0 0", f"draw a {plain.LOW} {plain.HIGH}", "open a " + "MT" * 20 + " 1 | 1",
                     "open a - " + " ".join(["7"] * 40) + " | " + " ".join(["-8"] * 40)):
            self.assertEqual(format_deed(parse_deed(text)), text)

    def test_known_answers(self):
        self.assertEqual(parse_deed("open a TM 3 1 | 2 2"), ("open", "a", "TM", [3, 1], [2, 2]))
        self.assertEqual(parse_deed("open b - - | -"), ("open", "b", "", [], []))
        self.assertEqual(parse_deed("open b M - | 4 -5"), ("open", "b", "M", [], [4, -5]))
        self.assertEqual(parse_deed("draw a 4 -1"), ("draw", "a", 4, -1))
        self.assertEqual(parse_deed("call a M"), ("call", "a", "M"))
        self.assertEqual([parse_deed("lay a 0"), parse_deed("answer bb 99")], [("lay", "a", 0), ("answer", "bb", 99)])
        self.assertEqual(parse_deed("close a"), ("close", "a"))
        self.assertEqual(format_deed(("open", "a", "TM", [3, 1], [2, 2])), "open a TM 3 1 | 2 2")
        self.assertEqual(format_deed(("open", "b", "", [], [])), "open b - - | -")
        self.assertEqual(format_deed(("open", "b", "", [0], [-7, 10])), "open b - 0 | -7 10")
        self.assertEqual([format_deed(deed) for deed in (("call", "a", "T"), ("lay", "a", 0), ("answer", "a", 12),
                                                         ("draw", "a", 4, -1), ("close", "a"))],
                         ["call a T", "lay a 0", "answer a 12", "draw a 4 -1", "close a"])

    def test_numbers_beyond_the_limits_are_written_all_the_same(self):
        big = 10 ** 40
        self.assertEqual(format_deed(("draw", "a", big, -big)), f"draw a {big} -{big}")
        self.assertEqual([format_deed((act, "a", 100)) for act in ("lay", "answer")], ["lay a 100", "answer a 100"])
        self.assertEqual(format_deed(("lay", "a", -1)), "lay a -1")
        self.assertEqual(format_deed(("open", "a", "M" * 41, [1] * 41, [big])), f"open a {'M' * 41} {'1 ' * 41}| {big}")
        for text, position in ((f"draw a {big} 1", 2), (f"draw a 1 -{big}", 3), ("lay a 100", 2), ("answer a 100", 2),
                               ("lay a -1", 2), ("open a " + "M" * 41 + " 1 | 1", 2), ("open a - " + "1 " * 41 + "| 1", 43),
                               ("open a - 1 | " + " ".join(["1"] * 41), 45)):
            self.raises(BadText, {"position": position}, parse_deed, text)

    def test_new_lists(self):
        deed = ("open", "a", "", [1], [2])
        text = format_deed(deed)
        first = parse_deed(text)
        first[3].append(5)
        first[4].clear()
        self.assertEqual(parse_deed(text), deed)
        self.assertIsNot(parse_deed("open a - - | -")[3], parse_deed("open a - - | -")[4])


class PositionTest(plain.Case, unittest.TestCase):

    def look(self, text, known):
        """Compare the text with the forms of all texts; return whether it is the text of a deed."""
        position = wrong_position(text, known)
        if position is None:
            self.assertEqual(format_deed(parse_deed(text)), text)
            return True
        self.raises(BadText, {"position": position}, parse_deed, text)
        return False

    def test_changed_texts(self):
        source = random.Random(182)
        known, said = forms(9), []
        for _ in range(130):
            text = format_deed(some_deed(source, 3))
            self.assertTrue(self.look(text, known))
            said += [self.look(other, known) for other in changed_texts(text, source)]
        self.assertGreater(min(said.count(True), said.count(False)), 150)

    def test_all_beginnings(self):
        source = random.Random(183)
        known = forms(6)
        for _ in range(60):
            text = format_deed(some_deed(source, 3))
            for length in range(len(text) + 1):
                self.look(text[:length], known)

    def test_some_tokens_in_any_order(self):
        source = random.Random(184)
        known = forms(8)
        tokens = ["open", "lay", "close", "a", "b", "M", "MT", "-", "|", "0", "5", "-3", "", "07", "draw", "call", "x1"]
        for _ in range(1500):
            chosen = [source.choice(tokens) for _ in range(source.randint(0, 6))]
            head = source.choice((["open", "a", "-"], ["open", "b", "M", "1"], ["draw", "a"], ["lay"], ["call", "q"], []))
            self.look(" ".join(head + chosen), known)

    def test_long_hands(self):
        known = [form for form in forms(41) if len(form) > 40]
        for first, second in ((39, 40), (40, 40), (40, 1), (41, 1), (1, 41), (1, 40), (0, 41), (41, 0), (40, 0)):
            hands = [" ".join(["7"] * count) or "-" for count in (first, second)]
            self.look(f"open a - {hands[0]} | {hands[1]}", known)
            self.look(f"open a - {hands[0]} |", known)
            self.look(f"open a - {hands[0]}", known)

    def test_known_positions(self):
        for text, position in (("", 0), (" ", 0), ("lay", 1), ("lay a", 2), ("lay a 07", 2), ("lay a 7 ", 3), ("lay  a 7", 1),
                               (" lay a 7", 0), ("lay a 7 8", 3), ("Lay a 7", 0), ("la a 7", 0), ("opens a - - | -", 0),
                               ("lay A 7", 1), ("lay a1 7", 1), ("lay abcdefghijklm 7", 1), ("lay a -7", 2), ("lay a -0", 2),
                               ("lay a 100", 2), ("lay a +7", 2), ("lay a 7\n", 2), ("lay a\t7", 1), ("lay a 1_0", 2),
                               ("call a m", 2), ("call a MT", 2), ("call a -", 2), ("call a", 2), ("close", 1), ("close a b", 2),
                               ("draw a 1", 3), ("draw a 1 2 3", 4), ("draw a -0 1", 2), ("draw a 1 -", 3), ("draw a 1 00", 3),
                               (f"draw a {10 ** 15 + 1} 1", 2), (f"draw a 1 -{10 ** 15 + 1}", 3), ("draw a " + "9" * 5000, 2),
                               ("open a", 2), ("open a TX 1 | 1", 2), ("open a -M 1 | 1", 2), ("open a  1 | 1", 2),
                               ("open a - | 1", 3), ("open a - - 1 | 1", 4), ("open a - 1 - | 1", 4), ("open a - 1 2", 5),
                               ("open a - 1 |", 5), ("open a - 1 | |", 5), ("open a - 1 | - 2", 6), ("open a - 1 | 2 -", 6),
                               ("open a - 1 | 2 |", 6), ("open a - 1 | 2 ", 6), ("open a - 1 || 2", 4), ("open a M- 1 | 2", 2),
                               ("open a - --1 | 2", 3), ("open a - 1.5 | 2", 3), ("open a - 1 | 2 x 3", 6), ("-", 0), ("|", 0)):
            self.raises(BadText, {"position": position}, parse_deed, text)

    def test_digits_and_letters_of_other_alphabets(self):
        for text, position in (("lay a \u0663", 2), ("lay \u00e9 3", 1), ("lay a \uff13", 2), ("draw a 1 -\u0663", 3),
                               ("open a \u041c 1 | 1", 2), ("lay \u00aa 1", 1), ("lay a \u00b2", 2)):
            self.raises(BadText, {"position": position}, parse_deed, text)

    def test_the_longest_and_the_shortest(self):
        self.assertEqual(parse_deed("close " + "z" * 12), ("close", "z" * 12))
        self.raises(BadText, {"position": 1}, parse_deed, "close " + "z" * 13)
        self.raises(BadText, {"position": 1}, parse_deed, "close ")
        self.assertEqual(parse_deed("open a " + "T" * 40 + " - | -")[2], "T" * 40)
        self.raises(BadText, {"position": 2}, parse_deed, "open a " + "T" * 41 + " - | -")
        self.assertEqual(parse_deed(f"draw a {10 ** 15} -{10 ** 15}"), ("draw", "a", plain.HIGH, plain.LOW))
        self.assertEqual(parse_deed("lay a 99"), ("lay", "a", 99))


if __name__ == "__main__":
    unittest.main()
