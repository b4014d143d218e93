"""Point 2: arguments stay as they were, and what is returned is new."""

import copy
import unittest

from climbrow import (bills, cards, changes, hidden, kinds, league, levels, lookers, moves, pairings, papers, picks, reserves,
                      rings, rows, seasons, spans, tables, texts, told, turns, uneven, walks)

MINE, THEIRS, PAIRING = [3, 1, 2, 2], [2, 2, 0, 3], [2, 0, 3, 1]
ROW = [-1, 0, 0, 1]
COURSE = [(2, 0), (0, 3), (3, 1), (1, 2)]
SPAN = spans.Span(1, 4)
TABLES = [(MINE, THEIRS), ([], []), ([5], [6])]
SCHEDULE = [(0, "M"), (2, "T"), (0, "T"), (0, "M"), (0, "M")]
ROWS = [[-1, 0, 0], [], [0]]
TELLING = {"pairs": [(1, 2)], "won": [0], "lost": [3]}
BOUNDS = ([1, 2, 0, 3], [4, 2, 1, 9])

CALLS = [
    (cards.deck, (MINE, THEIRS), {}),
    (cards.deck, ([], []), {}),
    (cards.place_of, (MINE, THEIRS, "theirs", 1), {}),
    (cards.rank_of, (MINE, THEIRS, "mine", 1), {}),
    (cards.around, (MINE, THEIRS, "mine", 2), {}),
    (cards.around, (MINE, THEIRS, "theirs", 2), {"down": True}),
    (cards.around, (MINE, [], "mine", 0), {}),
    (cards.next_up, (MINE, THEIRS, "mine", 2), {}),
    (cards.next_down, (MINE, THEIRS, "mine", 2), {}),
    (walks.heights, (MINE, THEIRS), {}),
    (walks.heights, ([], []), {}),
    (walks.peak, (MINE, THEIRS), {}),
    (walks.valley, (MINE, THEIRS), {}),
    (walks.peak_places, (MINE, THEIRS), {}),
    (walks.valley_places, (MINE, THEIRS), {}),
    (walks.crossing, (MINE, THEIRS, PAIRING, 3), {}),
    (rings.turn, (MINE, THEIRS), {}),
    (rings.turn, (MINE, THEIRS), {"steps": 0}),
    (rings.turn, (MINE, THEIRS), {"steps": 3}),
    (rings.turn, (MINE, THEIRS), {"steps": 9}),
    (rings.turn, ([], []), {"steps": 2}),
    (rings.arc, (MINE, THEIRS, 1, 3), {}),
    (rings.taken_out, (MINE, THEIRS, 1, 3), {}),
    (rings.taken_out, (MINE, THEIRS, 0, 0), {}),
    (rings.taken_out, ([1], [1], 0, 0), {}),
    (pairings.result, (MINE, THEIRS, PAIRING), {}),
    (pairings.marks, (MINE, THEIRS, PAIRING), {}),
    (pairings.winners, (MINE, THEIRS, PAIRING), {}),
    (pairings.rotation, (MINE, THEIRS, 0), {}),
    (pairings.rotation, (MINE, THEIRS, 2), {}),
    (pairings.rotation, ([], [], 0), {}),
    (pairings.exchange, (PAIRING, 0, 3), {}),
    (pairings.exchange, (PAIRING, 2, 2), {}),
    (pairings.distance, (PAIRING, [0, 1, 2, 3]), {}),
    (pairings.way, (PAIRING, [0, 1, 2, 3]), {}),
    (pairings.way, (PAIRING, PAIRING), {}),
    (spans.least, (MINE, THEIRS), {}),
    (spans.most, (MINE, THEIRS), {}),
    (spans.span_of, (MINE, THEIRS), {}),
    (spans.pairing_with, (MINE, THEIRS, 2), {}),
    (spans.rise_and_fall, (MINE, THEIRS, 2, 3), {}),
    (reserves.reserve, (MINE, THEIRS), {}),
    (reserves.counter_reserve, (MINE, THEIRS), {}),
    (reserves.toward, (MINE, THEIRS, PAIRING), {}),
    (reserves.toward, (MINE, THEIRS, PAIRING), {"goal": "least"}),
    (levels.level, (MINE, THEIRS, "mine", 0), {}),
    (levels.side_levels, (MINE, THEIRS, "theirs"), {}),
    (levels.row_of, (MINE, THEIRS), {}),
    (levels.mates, (MINE, THEIRS), {}),
    (levels.row_after, (MINE, THEIRS, 2, 3), {}),
    (rows.is_row, (ROW,), {}),
    (rows.blocks, (ROW,), {}),
    (rows.span_of_row, (ROW,), {}),
    (rows.struck, (ROW, ""), {}),
    (rows.struck, (ROW, "MT"), {}),
    (rows.struck, (ROW, "TMTT"), {"many": "theirs"}),
    (rows.struck, ([], ""), {}),
    (rows.value, (ROW, "MTTM"), {}),
    (rows.value_of, (MINE, THEIRS, "MTTM"), {"many": "theirs"}),
    (rows.all_values, (ROW,), {}),
    (rows.all_values, ([],), {}),
    (turns.turn_worth, (ROW, "MTTM", 2), {}),
    (turns.turns_needed, (ROW, 3), {}),
    (turns.last_lay_worth, (ROW, 2), {}),
    (turns.exact_range, (ROW, "MTTM"), {}),
    (turns.can_force, (ROW, "MTTM", 2), {}),
    (kinds.alike, (MINE, THEIRS, THEIRS, MINE), {}),
    (kinds.kinds, (0,), {}),
    (kinds.kinds, (4,), {}),
    (kinds.kind_at, (0, 0), {}),
    (kinds.kind_at, (4, 9), {}),
    (kinds.kind_index, (ROW,), {}),
    (kinds.order_of, (MINE, THEIRS), {}),
    (kinds.plain_hands, ("MTTM",), {}),
    (kinds.plain_hands, ("",), {}),
    (kinds.count_orders, (ROW,), {}),
    (kinds.plainest, (ROW,), {}),
    (kinds.plainest, ([],), {}),
    (moves.chain, (MINE, THEIRS, "mine", 2), {}),
    (moves.chain, ([1], [1], "theirs", 0), {}),
    (moves.lay_values, (MINE, THEIRS, "MTTM"), {}),
    (moves.lay_values, ([], [], ""), {}),
    (moves.answer_values, (MINE, THEIRS, "MTTM", 1), {"many": "theirs"}),
    (moves.best_lays, (MINE, THEIRS, "TTTM"), {}),
    (moves.best_lays, ([], [], ""), {}),
    (moves.best_answers, (MINE, THEIRS, "TTTM", 1), {"many": "theirs"}),
    (bills.rises_and_falls, (MINE, THEIRS, COURSE), {}),
    (bills.rises_and_falls, (MINE, THEIRS, []), {}),
    (bills.slips, (MINE, THEIRS, "MTTM", COURSE), {}),
    (bills.slips, (MINE, THEIRS, "MTTM", COURSE[:1]), {"many": "theirs"}),
    (bills.slips, ([], [], "", []), {}),
    (seasons.season_run, (SPAN, "MT", 1, "TM"), {}),
    (seasons.season_run, (SPAN, "", 0, ""), {"layer": "theirs"}),
    (seasons.season_value, (SPAN, "MT", 1, "TM"), {}),
    (tables.schedule_words, (TABLES, SCHEDULE), {}),
    (tables.schedule_words, ([], []), {}),
    (tables.schedule_value, (TABLES, SCHEDULE), {"many": "theirs"}),
    (tables.joint_span, (TABLES,), {}),
    (tables.merged, (TABLES,), {}),
    (tables.merged, (TABLES[:1],), {}),
    (tables.merged, ([],), {}),
    (picks.picked_value, (ROWS, "MTTM"), {}),
    (picks.best_picks, (ROWS, "MTTM"), {"picker": "answerer"}),
    (picks.best_picks, ([], ""), {}),
    (told.breaking_place, (MINE, THEIRS, [2, 0]), {}),
    (told.breaking_place, (MINE, THEIRS, [1]), {}),
    (told.count_winner_sets, (MINE, THEIRS, 2), {}),
    (told.results_told, (MINE, THEIRS), TELLING),
    (told.results_told, (MINE, THEIRS), {}),
    (told.pairing_told, (MINE, THEIRS, 3), TELLING),
    (told.pairing_told, (MINE, THEIRS, 3), {}),
    (told.pairing_told, ([], [], 0), {}),
    (told.forced_marks, (MINE, THEIRS), TELLING),
    (told.forced_marks, (MINE, THEIRS), {"wanted": 3}),
    (told.forced_marks, ([], []), {}),
    (hidden.sure_value, (MINE, *BOUNDS, "MTTM"), {}),
    (hidden.hoped_value, (MINE, *BOUNDS, "MTTM"), {}),
    (hidden.hand_for, (MINE, *BOUNDS, "MTTM", 2), {}),
    (hidden.hand_for, (MINE, THEIRS, THEIRS, "MTTM", 3), {}),
    (hidden.look, (MINE, *BOUNDS, 0, 2), {}),
    (hidden.look, (MINE, THEIRS, THEIRS, 0, 2), {}),
    (uneven.top_cards, (MINE, 2), {}),
    (uneven.top_cards, (MINE, 4), {}),
    (uneven.uneven_value, (MINE, THEIRS[:3], "MT"), {}),
    (changes.with_number, (MINE, 1, 1), {}),
    (changes.cheapest_raise, (MINE, THEIRS, "MTTM", 1), {}),
    (changes.lift_lowest, (MINE, THEIRS, 0), {}),
    (changes.lift_lowest, (MINE, THEIRS, 2), {}),
    (changes.lift_lowest, ([], [], 0), {}),
    (changes.lifts_needed, (MINE, THEIRS, "MTTM", 4), {}),
    (changes.late_pair, (MINE, THEIRS, 4, 2), {}),
    (league.least_table, ([MINE, THEIRS, MINE],), {}),
    (league.loss_table, ([MINE, THEIRS, MINE],), {}),
    (league.loss_table, ([[], []],), {}),
    (league.beats_all, ([MINE, THEIRS],), {}),
    (league.joined_pairing, (PAIRING, [3, 1, 0, 2]), {}),
    (league.joined_pairing, (PAIRING, [0, 1, 2, 3]), {}),
    (league.joined_pairing, ([], []), {}),
    (league.commonest, (MINE,), {}),
    (papers.span_paper, (MINE, THEIRS), {}),
    (papers.span_paper, ([1], [1]), {}),
    (papers.span_paper, ([], []), {}),
    (papers.row_paper, (MINE, THEIRS), {}),
    (papers.row_paper, ([], []), {}),
    (papers.value_paper, (MINE, THEIRS, "MTTM"), {}),
    (papers.winners_paper, (MINE, THEIRS, [3, 1]), {}),
    (papers.winners_paper, (MINE, THEIRS, [0, 2]), {}),
    (papers.winners_paper, (MINE, THEIRS, [0, 1, 2, 3]), {}),
    (papers.winners_paper, ([], [], []), {}),
    (papers.reserve_paper, (MINE, THEIRS), {}),
    (papers.reserve_paper, ([], []), {}),
    (papers.telling_paper, (MINE, THEIRS), TELLING),
    (papers.telling_paper, (MINE, THEIRS), {}),
    (papers.telling_paper, ([1], [1]), {"pairs": [(0, 0)]}),
    (papers.telling_paper, (MINE, THEIRS), {"won": [1, 2], "lost": [0]}),
    (lookers.look_span, (MINE, THEIRS, papers.span_paper(MINE, THEIRS)), {}),
    (lookers.look_row, (MINE, THEIRS, papers.row_paper(MINE, THEIRS)), {}),
    (lookers.look_value, (MINE, THEIRS, papers.value_paper(MINE, THEIRS, "MTTM")), {}),
    (lookers.look_winners, (MINE, THEIRS, papers.winners_paper(MINE, THEIRS, [3, 1])), {}),
    (lookers.look_winners, (MINE, THEIRS, ("winners", [3, 0], [0, 1, 2, 3])), {}),
    (lookers.look_reserve, (MINE, THEIRS, papers.reserve_paper(MINE, THEIRS)), {}),
    (lookers.look_telling, (MINE, THEIRS, papers.telling_paper(MINE, THEIRS, **TELLING)), TELLING),
    (texts.format_deed, (("open", "a", "MT", [1, 2], [3, 4]),), {}),
    (texts.parse_deed, ("open a MT 1 2 | 3 4",), {}),
    (texts.parse_deed, ("open a - - | -",), {}),
]


def lists_in(found):
    """All lists that a value is or contains."""
    inner = [part for entry in found for part in lists_in(entry)] if isinstance(found, (list, tuple)) else []
    return ([found] if isinstance(found, list) else []) + inner


def told(found):
    """A value to compare: an object that is none of Python's own is shown by its attributes."""
    return vars(found) if hasattr(found, "__dict__") else found


def all_told(args):
    return [told(arg) for arg in args]


class ArgumentsTest(unittest.TestCase):

    def test_arguments_stay_as_they_were(self):
        for call, args, kwargs in CALLS:
            given, named = copy.deepcopy(args), copy.deepcopy(kwargs)
            call(*given, **named)
            self.assertEqual(all_told(given), all_told(args), call.__name__)
            self.assertEqual(named, kwargs, call.__name__)

    def test_returned_lists_are_new_and_no_two_are_the_same(self):
        for call, args, kwargs in CALLS:
            given, named = copy.deepcopy(args), copy.deepcopy(kwargs)
            found = lists_in(call(*given, **named)) + lists_in(call(*given, **named))
            objects = {id(part) for part in found}
            self.assertEqual(len(objects), len(found), call.__name__)
            passed = {id(part) for part in lists_in(given) + lists_in(list(named.values()))}
            self.assertEqual(objects & passed, set(), call.__name__)

    def test_returned_lists_may_be_modified(self):
        for call, args, kwargs in CALLS:
            given = copy.deepcopy(args)
            first = call(*given, **kwargs)
            expected = copy.deepcopy(told(first))
            for part in lists_in(first):
                part.reverse()
                part.append("other")
            self.assertEqual(told(call(*given, **kwargs)), expected, call.__name__)
            self.assertEqual(all_told(given), all_told(args), call.__name__)


if __name__ == "__main__":
    unittest.main()
