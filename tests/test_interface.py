"""The names, arguments and places of everything that the interface lists."""

import importlib
import inspect
import unittest

HANDS = "(mine, theirs)"
CARD = "(mine, theirs, side, index)"
PAIR = "(mine, theirs, m, t)"
PAIRING = "(mine, theirs, pairing)"
WORD = "(mine, theirs, word, *, many='mine')"
LAID = "(mine, theirs, word, index, *, many='mine')"
PAPER = "(mine, theirs, paper)"
PICKED = "(rows, word, *, picker='layer', many='mine')"

FUNCTIONS = {
    "climbrow.cards": {
        "wins": "(my_number, their_number)",
        "deck": HANDS,
        "place_of": CARD,
        "rank_of": CARD,
        "around": "(mine, theirs, side, index, *, down=False)",
        "next_up": CARD,
        "next_down": CARD,
    },
    "climbrow.walks": {
        "heights": HANDS,
        "peak": HANDS,
        "valley": HANDS,
        "peak_places": HANDS,
        "valley_places": HANDS,
        "crossing": "(mine, theirs, pairing, place)",
    },
    "climbrow.rings": {
        "turn": "(mine, theirs, *, steps=1)",
        "arc": PAIR,
        "taken_out": PAIR,
    },
    "climbrow.pairings": {
        "result": PAIRING,
        "marks": PAIRING,
        "winners": PAIRING,
        "rotation": "(mine, theirs, r)",
        "exchange": "(pairing, a, b)",
        "distance": "(first, second)",
        "way": "(first, second)",
    },
    "climbrow.spans": {
        "least": HANDS,
        "most": HANDS,
        "span_of": HANDS,
        "pairing_with": "(mine, theirs, wanted)",
        "rise_and_fall": PAIR,
    },
    "climbrow.reserves": {
        "reserve": HANDS,
        "counter_reserve": HANDS,
        "toward": "(mine, theirs, pairing, *, goal='most')",
    },
    "climbrow.levels": {
        "level": CARD,
        "side_levels": "(mine, theirs, side)",
        "row_of": HANDS,
        "mates": HANDS,
        "row_after": PAIR,
    },
    "climbrow.rows": {
        "is_row": "(levels)",
        "blocks": "(row)",
        "span_of_row": "(row)",
        "struck": "(row, word, *, many='mine')",
        "value": "(row, word, *, many='mine')",
        "value_of": "(mine, theirs, word, *, many='mine')",
        "all_values": "(row)",
    },
    "climbrow.turns": {
        "turn_worth": "(row, word, index, *, many='mine')",
        "turns_needed": "(row, wanted)",
        "last_lay_worth": "(row, lays)",
        "exact_range": "(row, word)",
        "is_steady": "(word)",
        "can_force": "(row, word, wanted)",
    },
    "climbrow.kinds": {
        "alike": "(mine, theirs, other_mine, other_theirs)",
        "count_kinds": "(n)",
        "kinds": "(n)",
        "kind_at": "(n, index)",
        "kind_index": "(row)",
        "order_of": HANDS,
        "plain_hands": "(order)",
        "count_orders": "(row)",
        "plainest": "(row)",
    },
    "climbrow.moves": {
        "chain": CARD,
        "lay_values": WORD,
        "answer_values": LAID,
        "best_lays": WORD,
        "best_answers": LAID,
    },
    "climbrow.bills": {
        "rises_and_falls": "(mine, theirs, course)",
        "slips": "(mine, theirs, word, course, *, many='mine')",
    },
    "climbrow.seasons": {
        "season_run": "(span, before, takebacks, after, *, layer='mine')",
        "season_value": "(span, before, takebacks, after, *, layer='mine')",
    },
    "climbrow.tables": {
        "schedule_words": "(tables, schedule)",
        "schedule_value": "(tables, schedule, *, many='mine')",
        "joint_span": "(tables)",
        "merged": "(tables)",
    },
    "climbrow.picks": {
        "picked_value": PICKED,
        "best_picks": PICKED,
    },
    "climbrow.told": {
        "breaking_place": "(mine, theirs, cards)",
        "count_winner_sets": "(mine, theirs, k)",
        "results_told": "(mine, theirs, *, pairs=(), won=(), lost=())",
        "pairing_told": "(mine, theirs, wanted, *, pairs=(), won=(), lost=())",
        "forced_marks": "(mine, theirs, *, wanted=None, pairs=(), won=(), lost=())",
    },
    "climbrow.hidden": {
        "sure_value": "(mine, lows, highs, word)",
        "hoped_value": "(mine, lows, highs, word)",
        "hand_for": "(mine, lows, highs, word, wanted)",
        "look": "(mine, lows, highs, index, number)",
    },
    "climbrow.uneven": {
        "top_cards": "(hand, rounds)",
        "uneven_value": "(mine, theirs, word)",
    },
    "climbrow.changes": {
        "with_number": "(hand, index, number)",
        "cheapest_raise": "(mine, theirs, word, index)",
        "lift_lowest": "(mine, theirs, count)",
        "lifts_needed": "(mine, theirs, word, wanted)",
        "late_pair": "(mine, theirs, my_number, their_number)",
    },
    "climbrow.league": {
        "least_table": "(hands)",
        "loss_table": "(hands)",
        "beats_all": "(hands)",
        "joined_pairing": "(first, second)",
        "commonest": "(hand)",
    },
    "climbrow.papers": {
        "span_paper": HANDS,
        "row_paper": HANDS,
        "reserve_paper": HANDS,
        "value_paper": WORD,
        "winners_paper": "(mine, theirs, cards)",
        "telling_paper": "(mine, theirs, *, pairs=(), won=(), lost=())",
    },
    "climbrow.lookers": {
        "look_span": PAPER,
        "look_row": PAPER,
        "look_value": PAPER,
        "look_winners": PAPER,
        "look_reserve": PAPER,
        "look_telling": "(mine, theirs, paper, *, pairs=(), won=(), lost=())",
    },
    "climbrow.texts": {
        "format_deed": "(deed)",
        "parse_deed": "(text)",
    },
}

CLASSES = {
    "climbrow.errors": {
        "ClimbrowError": {},
        "BadHands": {"__init__": "(self, mine_count, theirs_count)"},
        "BadWord": {"__init__": "(self, position)"},
        "Unsteady": {"__init__": "(self, position)"},
        "BadCard": {"__init__": "(self, side, index)"},
        "BadPairing": {"__init__": "(self, index)"},
        "BadPlace": {"__init__": "(self, place)"},
        "OutOfTurn": {"__init__": "(self)"},
        "Unreachable": {"__init__": "(self, wanted, lowest, highest)"},
        "Contradiction": {"__init__": "(self)"},
        "BadBounds": {"__init__": "(self, index)"},
        "BadSchedule": {"__init__": "(self, position)"},
        "BadText": {"__init__": "(self, position)"},
        "UnknownName": {"__init__": "(self, name)"},
        "DuplicateName": {"__init__": "(self, name)"},
    },
    "climbrow.spans": {
        "Span": {
            "__init__": "(self, least, most)",
            "__add__": "(self, other)",
            "__contains__": "(self, number)",
        },
    },
    "climbrow.duels": {
        "Duel": {
            "__init__": "(self, mine, theirs, word='')",
            "__iter__": "(self)",
            "call": "(self, letter)",
            "lay": "(self, index)",
            "answer": "(self, index)",
            "draw": "(self, my_number, their_number)",
            "rest": "(self)",
            "row": "(self)",
            "value": "(self, letters, *, many='mine')",
        },
    },
    "climbrow.guides": {
        "Guide": {
            "__init__": "(self, mine, theirs, side, *, many='mine')",
            "lay": "(self)",
            "answer": "(self, index)",
            "saw": "(self, m, t)",
            "promise": "(self, word)",
        },
    },
    "climbrow.exact": {
        "ExactGuide": {
            "__init__": "(self, mine, theirs, word, wanted)",
            "lay": "(self)",
            "answer": "(self, index)",
            "saw": "(self, m, t)",
        },
    },
    "climbrow.seasons": {
        "Season": {
            "__init__": "(self, mine, theirs, before, takebacks, after, *, layer='mine')",
            "bind": "(self, m, t)",
            "pass_turn": "(self)",
            "lay": "(self, index)",
            "answer": "(self, index)",
            "keep": "(self)",
            "take_back": "(self, index)",
            "exchange": "(self, a, b)",
            "won_count": "(self)",
        },
    },
    "climbrow.stewards": {
        "Steward": {
            "__init__": "(self, mine, theirs, before, takebacks, after, *, side, layer='mine')",
            "move": "(self)",
            "saw": "(self, deed)",
        },
    },
    "climbrow.tableguides": {
        "TableGuide": {
            "__init__": "(self, tables, side, *, picker='layer', many='mine')",
            "pick": "(self, word)",
            "lay": "(self, table)",
            "answer": "(self, table, index)",
            "saw": "(self, table, m, t)",
            "promise": "(self, word)",
            "schedule_promise": "(self, schedule)",
        },
    },
    "climbrow.hidden": {
        "HiddenGuide": {
            "__init__": "(self, mine, lows, highs)",
            "lay": "(self)",
            "answer": "(self, index)",
            "saw": "(self, m, t, number)",
            "promise": "(self, word)",
        },
    },
    "climbrow.uneven": {
        "UnevenGuide": {
            "__init__": "(self, mine, theirs, rounds, side)",
            "lay": "(self)",
            "answer": "(self, index)",
            "saw": "(self, m, t)",
            "promise": "(self, word)",
        },
    },
    "climbrow.desk": {
        "Desk": {
            "__init__": "(self)",
            "__iter__": "(self)",
            "do": "(self, deed)",
            "run": "(self, texts)",
            "undo": "(self)",
            "redo": "(self)",
            "journal": "(self)",
            "twin": "(self)",
            "state": "(self, name)",
            "span": "(self, name)",
            "value": "(self, name, letters, *, many='mine')",
            "advice": "(self, name, *, many='mine')",
            "whole_span": "(self)",
        },
    },
}

PROPERTIES = {
    ("climbrow.spans", "Span"): ("width",),
    ("climbrow.duels", "Duel"): ("due", "rounds_left"),
    ("climbrow.seasons", "Season"): ("part", "due"),
}


class InterfaceTest(unittest.TestCase):

    def test_functions_stand_in_their_files_with_their_arguments(self):
        for module, functions in FUNCTIONS.items():
            for name, signature in functions.items():
                function = getattr(importlib.import_module(module), name)
                self.assertEqual(function.__module__, module, name)
                self.assertEqual(str(inspect.signature(function)), signature, name)

    def test_classes_stand_in_their_files_and_define_their_methods(self):
        for module, classes in CLASSES.items():
            for name, methods in classes.items():
                found = getattr(importlib.import_module(module), name)
                self.assertEqual(found.__module__, module, name)
                for method, signature in methods.items():
                    self.assertIn(method, vars(found), name)
                    self.assertEqual(str(inspect.signature(vars(found)[method])), signature, (name, method))

    def test_properties_stand_in_their_classes(self):
        for (module, name), properties in PROPERTIES.items():
            found = getattr(importlib.import_module(module), name)
            for told in properties:
                self.assertIsInstance(vars(found)[told], property)


if __name__ == "__main__":
    unittest.main()
