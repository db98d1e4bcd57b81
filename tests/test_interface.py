"""Each name stands in its file with its parameters; arguments stay as they are; answers stay the same."""

import copy
import importlib
import inspect

from someoneout.boardclasses import Board
from someoneout.circleclasses import Circle
from someoneout.grantclasses import Grant
from someoneout.numberclasses import Number
from someoneout.officeasks import OfficeAsks
from someoneout.offices import Office
from someoneout.partclasses import Parted
from someoneout.ruleclasses import Rule
from tests.support import Case, LIMITS, PAIRS, SEAT, SLOTS, TABLE, TRIO

TOLD = (1, 2, 3, 4, 5, 6)
LATE = (SEAT[0], 2, (0, 1), ((0, 4), (2, 6)))
ORDER = (2, 0, 1)
TERMS = (((0,), 1), ((0, 1), -1), ((1,), 1))
BOARD_SEAT = ((2, 2), (0, 4, 4, 4))
DUES = (((1, 1), (3, 1)), ((1, 1), (3, 1)))
SHARES = ((0, 1), (1, 2), (1, 2), (0, 1))
HOLD = ((((0, 1), (4, 1)), ((0, 1), (4, 1))), ((0, 1), (0, 1), (0, 1), (1, 1)), ((0, 1), (1, 1), (1, 1), (0, 1)))
CLAIM = (((0, 1), (4, 1), (4, 1), (4, 1)), ((0, 1), (4, 1), (4, 1), (4, 1)))
POOL = ((0, 1, 1, 1), ((0, 4), (0, 4)))
EVEN = (((0, 1), (4, 1)), ((0, 1), (4, 1)))
LOG = (("house", SEAT[0]), ("take", 0, 1, 1, 0, 4), ("tell", 0, 1, 3), ("settle", 0, "handed"), ("day",))
TAKERS = ((0, 0, 4, 3), (1, 0, 4, 1))

INTERFACE = {
    "kinds": ("is_integer(thing)", "is_number(thing)", "is_quotient(thing)", "is_lot(size, thing)",
              "is_order(size, thing)", "lot_number(lot)", "lot_by(number)", "lots_within(lot)"),
    "quotients": ("quotient_of(top, bottom)", "plus(one, other)", "minus(one, other)", "times(one, other)",
                  "over(one, other)", "less(one, other)"),
    "housechecker": ("is_house(thing)", "lets_house(thing)"),
    "houses": ("size_of(house)", "seats_house(size, seats)", "windows_house(many, windows)", "beside(*houses)"),
    "ranks": ("rank_of(house, lot)", "is_free(house, lot)", "rank_table(house)"),
    "covers": ("covered_by(house, lot)", "barred_of(house)", "forced_of(house)", "all_bases(house)"),
    "families": ("level_fault(size, lots)", "lets_fault(size, lots, thing)", "house_by_lots(size, lots)"),
    "housechanges": ("as_table(house)", "refused_house(house, lot)", "promised_house(house, lot)",
                     "kept_house(house, lot)", "renamed_house(house, order)", "turned_house(house)"),
    "circles": ("is_circle(thing)", "own_lot(circle, person)", "left_out(circle, lot)", "ends_of(circle)",
                "is_telling(circle, thing)", "same_stretch(circle)"),
    "circlechecker": ("lets_circle(thing)",),
    "circlechanges": ("finer(circle, many)", "kept_circle(circle, lot)", "narrowed(circle, wish, low, high)",
                      "beside_circles(circle, other)"),
    "circletexts": ("house_line(house)", "circle_line(circle)", "read_house(text)", "read_circle(text)"),
    "grants": ("granted(house, telling)", "best_worth(house, telling)", "lot_worth(telling, lot)",
               "layers_of(house, telling)"),
    "bestpapers": ("best_paper(house, telling)", "lets_best(house, telling, thing)"),
    "gates": ("gate_of(house, telling, wish)", "sure_of(house, telling)", "possible_of(house, telling)",
              "is_best(house, telling, lot)"),
    "worthchanges": ("put_worth(telling, wish, worth)", "change_of(house, telling, wish, worth)",
                     "worth_line(house, telling, wish)", "worth_without(house, telling, lot)",
                     "worth_with(house, telling, lot)"),
    "heirs": ("heir_of(house, telling, wish)", "heirs_of(house, telling)"),
    "ringpapers": ("ring_in(house, lot)", "lets_ring(house, lot, thing)"),
    "seating": ("seated(house, lot)", "lets_seats(house, lot, thing)", "lets_crowd(house, lot, thing)"),
    "others": ("own_worth(circle, telling, person)", "without_person(circle, telling, person)",
               "others_lose(circle, telling, person)", "loss_row(circle, telling)", "loss_till(circle, telling)",
               "gain_by(circle, person, truth, told)"),
    "rings": ("is_ring(house, thing)", "all_rings(house)", "ring_by(house, lot, wish)", "cut_by(house, base, wish)"),
    "pieces": ("pieces_of(house)", "is_one_piece(house)", "piece_at(house, wish)", "ring_through(house, one, other)"),
    "piecepapers": ("lets_parting(house, thing)",),
    "zones": ("zones_of(circle)", "zone_lots(circle, zone)"),
    "zonehouses": ("zone_house(circle, zone)", "zone_pieces(circle, zone)"),
    "leavings": ("full_pieces(circle)", "full_zones(circle)", "stays(circle)"),
    "staypapers": ("stay_paper(circle)", "lets_stay(circle, thing)"),
    "breakpapers": ("break_paper(circle)", "cube_difference(circle, here, there)", "lets_break(circle, thing)"),
    "carving": ("carved(house, lot)", "lets_carving(house, lot, thing)"),
    "limitpieces": ("binding_limits(house)", "limit_pieces(house)", "limits_stay(house, people, owners)"),
    "sums": ("signed_sum(house)", "number_of(house)", "number_in(house, lot)"),
    "takings": ("taken_apart(house, wish)", "piece_numbers(house)"),
    "leans": ("inner_least(house, order, base)", "outer_least(house, order, base)", "lean_bases(house, order)",
              "spread_of(house, order)", "lets_lean(house, order, thing)"),
    "limitruns": ("signed_ranks(house)", "limits_signed(house)", "limits_number(house)", "seats_number(size, seats)"),
    "reductions": ("twin_lots(house)", "partner_lots(house)", "twins_refused(house)", "partners_promised(house)"),
    "leasts": ("term_of(house, lot)", "least_terms(house)", "ranks_by_terms(size, terms)",
               "worth_by_terms(terms, telling)"),
    "termpapers": ("lets_terms(house, thing)",),
    "corners": ("corner_difference(house, here, there)", "level_difference(house, low, high)"),
    "boards": ("is_board(thing)", "places_of(board)", "worth_at(board, place)", "others_of(board, person)"),
    "boardchecker": ("lets_board(thing)",),
    "endboards": ("end_rows(circle, person)", "board_of(circle)", "place_of(circle, telling)",
                  "telling_at(circle, place)"),
    "mixed": ("mixed_at(board, here, there)", "uneven_place(board)"),
    "tables": ("is_tables(board, thing)", "dues_of(board, tables, place)", "till_row(board, tables)",
               "till_span(board, tables)"),
    "tablesums": ("tables_plus(board, tables, other)", "tables_times(board, tables, quotient)", "flat_tables(board)"),
    "spanpapers": ("least_span(board)", "span_paper(board)", "lets_span(board, thing)"),
    "walks": ("best_walk(board)", "lets_walk(board, thing)"),
    "circlespans": ("single_of(circle, lot)", "piece_span(circle, lot)", "piece_spans(circle)", "circle_span(circle)",
                    "corner_excess(circle)", "half_tables(circle)"),
    "holds": ("least_hold(circle)", "hold_paper(circle)", "lets_hold(circle, thing)"),
    "mixtures": ("mixture_of(circle, telling)", "mean_over(circle, row, telling)"),
    "rules": ("dues_at(circle, tables, telling)", "gains_at(circle, tables, telling)",
              "payments_at(circle, tables, telling)", "rule_till(circle, tables, telling)"),
    "rulespans": ("till_ends(circle, tables)", "worst_gains(circle, tables)", "never_short(circle, tables)",
                  "nobody_worse(circle, tables)"),
    "handing": ("loss_tables(circle)", "handed_row(circle, telling)", "handed_tables(circle)"),
    "stayings": ("stay_tables(circle)",),
    "gaps": ("gap_sum(low, high, worths)", "gap_till(circle, telling)", "gap_tables(circle)"),
    "claims": ("is_claim(circle, thing)", "claim_of(circle, tables)", "claim_by(circle, payments)",
               "gain_told(circle, claim, person, truth, told)", "times_all(claim, many)"),
    "lies": ("lie_of(circle, claim)",),
    "liechecker": ("lets_lie(circle, claim, thing)",),
    "poolchecker": ("is_pool(thing)", "lets_pool(thing)"),
    "pools": ("queue_pool(costs, stretches)", "desk_pool(lengths, stretches)", "wants_pool(wants, seats, stretches)"),
    "poolgrants": ("granted_units(pool, telling)", "pool_worth(pool, telling)", "units_fit(pool, thing)"),
    "poolboards": ("pool_board(pool)", "pool_number(pool)", "pool_stays(pool)", "pool_span(pool)",
                   "cost_difference(costs)"),
    "pooltables": ("pool_tables(pool)", "pool_payments(pool, tables, telling)", "pool_till(pool, tables, telling)"),
    "odds": ("is_odds(circle, thing)", "even_odds(circle)", "chance_from(odds, wish, height)",
             "mean_worth(circle, odds)", "odds_shares(circle, odds)"),
    "squares": ("mixed_part(circle, odds, telling)", "least_square(circle, odds)", "square_by_number(circle, odds)"),
    "means": ("least_mean(circle, odds)", "mean_paper(circle, odds)", "lets_mean(circle, odds, thing)",
              "pair_mean(one, other)"),
    "healing": ("changed_circle(circle, wish, deed)", "healing_wishes(circle, deed)",
                "joined_circle(circle, house, stretches)"),
    "losses": ("loss_at(circle, telling, wish, deed)", "worst_loss(circle, wish, deed)",
               "dice_loss(circle, telling, deed)", "worst_dice(circle, deed)", "best_dice(house, deed)"),
    "officeevents": ("is_event(thing)", "is_log(thing)"),
    "settling": ("taken_lot(takers)", "round_circle(people, house, takers)", "settle_by(people, house, takers, way)"),
    "officereasons": ("reason_of(people, rounds, settled, event)",),
    "replaying": ("replayed(people, log)", "cut_log(log, many)"),
    "journals": ("days_of(people, log)", "tills_of(people, log)"),
    "eventtexts": ("event_line(event)", "log_text(log)"),
    "eventreadings": ("read_event(text)", "read_log(text)"),
    "desk": ("desk_line(office, text)",),
}
CIRCLE = ("__init__(self, house, people, owners, stretches)", "told(self)", "own(self, person)",
          "leaves_out(self, lot)", "finer(self, many)", "kept(self, lot)", "__add__(self, other)", "__len__(self)",
          "__eq__(self, other)")
GRANT = ("__init__(self, house, telling)", "lot(self)", "worth(self)", "gate(self, wish)", "heir(self, wish)",
         "put(self, wish, worth)", "told(self)", "__eq__(self, other)")
PARTED = ("__init__(self, circle)", "pieces(self)", "full(self)", "stays(self)", "zones(self)", "told(self)",
          "__eq__(self, other)")
NUMBER = ("__init__(self, house)", "signed(self)", "number(self)", "lean(self, order)", "term(self, lot)",
          "turned(self)", "told(self)", "__eq__(self, other)")
BOARD = ("__init__(self, counts, worths)", "span(self)", "till(self, tables)", "mixed(self, here, there)",
         "even(self)", "told(self)", "__eq__(self, other)")
RULE = ("__init__(self, circle, tables)", "dues(self, telling)", "payments(self, telling)", "till(self, telling)",
        "gains(self, telling)", "told(self)", "__eq__(self, other)")
ASKS = ("__init__(self, people)", "people_now(self)", "rounds_now(self)", "circle_in(self, number)",
        "stays_in(self, number)", "span_in(self, number)", "granted_in(self, number)", "account(self, person)",
        "till_now(self)", "calendar(self)")
OFFICE = ("__init__(self, people)", "person(self)", "house_in(self, house)",
          "take(self, number, wish, person, low, high)", "drop(self, number, wish)",
          "narrow(self, number, wish, low, high)", "tell(self, number, wish, worth)", "settle(self, number, way)",
          "day(self)", "go(self, event)", "barred(self, event)", "log(self)", "do_all(self, events, keep=False)",
          "undo(self, steps=1)", "tried(self, events)", "__eq__(self, other)")
CLASSES = ((Circle, "circleclasses", CIRCLE), (Grant, "grantclasses", GRANT), (Parted, "partclasses", PARTED),
           (Number, "numberclasses", NUMBER), (Board, "boardclasses", BOARD), (Rule, "ruleclasses", RULE),
           (OfficeAsks, "officeasks", ASKS), (Office, "offices", OFFICE))

CALLS = (
    ("kinds", "is_lot", (4, (1, 2))), ("kinds", "is_order", (3, (2, 0, 1))), ("kinds", "lot_number", ((0, 3),)),
    ("kinds", "lot_by", (9,)), ("kinds", "lots_within", ((0, 3),)), ("kinds", "is_quotient", ([1, 2],)),
    ("quotients", "quotient_of", (6, 4)), ("quotients", "plus", ((1, 2), (1, 3))),
    ("housechecker", "is_house", (["limits", 2, [[0, 1], 1]],)), ("housechecker", "is_house", (LIMITS,)),
    ("housechecker", "lets_house", (LIMITS,)), ("houses", "size_of", (LIMITS,)), ("houses", "seats_house", (3, 1)),
    ("houses", "windows_house", (3, ((0, 1), (1, 2)))), ("houses", "beside", (LIMITS, TABLE)),
    ("ranks", "rank_of", (LIMITS, (0, 1))), ("ranks", "is_free", (LIMITS, (0, 1))), ("ranks", "rank_table", (LIMITS,)),
    ("covers", "covered_by", (LIMITS, (0,))), ("covers", "barred_of", (LIMITS,)), ("covers", "forced_of", (LIMITS,)),
    ("covers", "all_bases", (LIMITS,)), ("families", "level_fault", (3, ((), (0,), (0, 1), (1,), (2,)))),
    ("families", "lets_fault", (2, ((), (0, 1)), ("part", (0, 1), (0,)))), ("families", "house_by_lots", (1, ((), (0,)))),
    ("housechanges", "as_table", (LIMITS,)), ("housechanges", "refused_house", (LIMITS, (0, 4))),
    ("housechanges", "promised_house", (LIMITS, (0, 2))), ("housechanges", "kept_house", (LIMITS, (0, 2))),
    ("housechanges", "renamed_house", (TRIO[0], (2, 0, 1))), ("housechanges", "turned_house", (LIMITS,)),
    ("circles", "is_circle", (list(SEAT),)), ("circles", "own_lot", (SEAT, 1)), ("circles", "left_out", (SEAT, (1,))),
    ("circles", "ends_of", (SEAT,)), ("circles", "is_telling", (SEAT, [0, 4])), ("circles", "same_stretch", (SEAT,)),
    ("circlechecker", "lets_circle", (SEAT,)), ("circlechanges", "finer", (SEAT, 2)),
    ("circlechanges", "kept_circle", (PAIRS, (0, 3))), ("circlechanges", "narrowed", (SEAT, 0, 1, 2)),
    ("circlechanges", "beside_circles", (SEAT, SEAT)), ("circletexts", "house_line", (LIMITS,)),
    ("circletexts", "circle_line", (SEAT,)), ("circletexts", "read_house", ("web 2 ; 0 1",)),
    ("circletexts", "read_circle", ("web 1 ; 0 0 | 2 ; 1 0 4",)),
    ("grants", "granted", (LIMITS, TOLD)), ("grants", "best_worth", (LIMITS, TOLD)),
    ("grants", "lot_worth", (TOLD, (0, 3))), ("grants", "layers_of", (LIMITS, TOLD)),
    ("bestpapers", "best_paper", (LIMITS, TOLD)), ("bestpapers", "lets_best", (SEAT[0], (3, 5), ((1,), (1, 1)))),
    ("gates", "gate_of", (LIMITS, TOLD, 1)), ("gates", "sure_of", (LIMITS, TOLD)),
    ("gates", "possible_of", (LIMITS, TOLD)), ("gates", "is_best", (LIMITS, TOLD, (2, 3, 5))),
    ("worthchanges", "put_worth", (TOLD, 1, 9)), ("worthchanges", "change_of", (LIMITS, TOLD, 1, 9)),
    ("worthchanges", "worth_line", (LIMITS, TOLD, 1)), ("worthchanges", "worth_without", (LIMITS, TOLD, (2, 4))),
    ("worthchanges", "worth_with", (LIMITS, TOLD, (0, 5))), ("heirs", "heir_of", (LIMITS, TOLD, 2)),
    ("heirs", "heirs_of", (LIMITS, TOLD)), ("ringpapers", "ring_in", (LIMITS, (0, 1, 2, 3))),
    ("ringpapers", "lets_ring", (LIMITS, (0, 1, 4), (0, 1))), ("seating", "seated", (SLOTS, (0, 1, 4))),
    ("seating", "lets_seats", (SLOTS, (1, 4), ((1, 0), (4, 3)))), ("seating", "lets_crowd", (SLOTS, (0, 1, 3, 5), (3,))),
    ("others", "own_worth", (TRIO, (1, 3, 1), 1)), ("others", "without_person", (TRIO, (1, 3, 1), 1)),
    ("others", "others_lose", (TRIO, (1, 3, 1), 1)), ("others", "loss_row", (TRIO, (1, 3, 1))),
    ("others", "loss_till", (TRIO, (1, 3, 1))), ("others", "gain_by", (TRIO, 1, (1, 3, 1), (1, 0, 1))),
    ("rings", "is_ring", (LIMITS, [0, [1]])), ("rings", "is_ring", (LIMITS, (0, 1))), ("rings", "all_rings", (LIMITS,)),
    ("rings", "ring_by", (LIMITS, (0, 2), 3)), ("rings", "cut_by", (LIMITS, (0, 2, 5), 2)),
    ("pieces", "pieces_of", (LIMITS,)), ("pieces", "is_one_piece", (LIMITS,)), ("pieces", "piece_at", (LIMITS, 2)),
    ("pieces", "ring_through", (LIMITS, 3, 0)), ("piecepapers", "lets_parting", (SEAT[0], ((0, 1),))),
    ("zones", "zones_of", (LATE,)), ("zones", "zone_lots", (LATE, (2, 4))),
    ("zonehouses", "zone_house", (LATE, (2, 4))), ("zonehouses", "zone_pieces", (LATE, (2, 4))),
    ("leavings", "full_pieces", (LATE,)), ("leavings", "full_zones", (LATE,)), ("leavings", "stays", (LATE,)),
    ("staypapers", "stay_paper", (PAIRS,)), ("staypapers", "lets_stay", (PAIRS, ((((0, 1), 2), ((2, 3), 0)),))),
    ("breakpapers", "break_paper", (LATE,)), ("breakpapers", "cube_difference", (SEAT, (0, 0), (4, 4))),
    ("breakpapers", "lets_break", (SEAT, ((0, 0), (4, 4)))), ("carving", "carved", (TRIO[0], (0, 2))),
    ("carving", "lets_carving", (TRIO[0], (0, 2), ((1,), ()))), ("limitpieces", "binding_limits", (LIMITS,)),
    ("limitpieces", "limit_pieces", (LIMITS,)), ("limitpieces", "limits_stay", (LIMITS, 2, (0, 1, 0, 1, 0, 1))),
    ("sums", "signed_sum", (LIMITS,)), ("sums", "number_of", (TRIO[0],)), ("sums", "number_in", (LIMITS, (0, 1))),
    ("takings", "taken_apart", (TRIO[0], 1)), ("takings", "piece_numbers", (LIMITS,)),
    ("leans", "inner_least", (TRIO[0], ORDER, (0, 1))), ("leans", "outer_least", (TRIO[0], ORDER, (1, 2))),
    ("leans", "lean_bases", (TRIO[0], ORDER)), ("leans", "spread_of", (TRIO[0], ORDER)),
    ("leans", "lets_lean", (TRIO[0], (0, 1, 2), (0, 2))), ("limitruns", "signed_ranks", (SLOTS,)),
    ("limitruns", "limits_signed", (LIMITS,)), ("limitruns", "limits_number", (LIMITS,)),
    ("limitruns", "seats_number", (200, 100)), ("reductions", "twin_lots", (SLOTS,)),
    ("reductions", "partner_lots", (LIMITS,)), ("reductions", "twins_refused", (SLOTS,)),
    ("reductions", "partners_promised", (LIMITS,)), ("leasts", "term_of", (LIMITS, (0, 1, 2))),
    ("leasts", "least_terms", (LIMITS,)), ("leasts", "ranks_by_terms", (3, TERMS)),
    ("leasts", "worth_by_terms", (TERMS, TOLD)), ("termpapers", "lets_terms", (SEAT[0], TERMS)),
    ("corners", "corner_difference", (LIMITS, TOLD, TOLD[::-1])), ("corners", "level_difference", (LIMITS, 4, 2)),
    ("boards", "is_board", (BOARD_SEAT,)), ("boards", "is_board", ([(2, 2), [0]],)), ("boards", "places_of", (BOARD_SEAT,)),
    ("boards", "worth_at", (BOARD_SEAT, (1, 0))), ("boards", "others_of", (BOARD_SEAT, 1)),
    ("boardchecker", "lets_board", (BOARD_SEAT,)), ("endboards", "end_rows", (LATE, 1)), ("endboards", "board_of", (LATE,)),
    ("endboards", "place_of", (LATE, (2, 6))), ("endboards", "telling_at", (LATE, (1, 2))),
    ("mixed", "mixed_at", (BOARD_SEAT, (0, 1), (1, 0))), ("mixed", "uneven_place", (BOARD_SEAT,)),
    ("tables", "is_tables", (BOARD_SEAT, [DUES])), ("tables", "dues_of", (BOARD_SEAT, DUES, (0, 1))),
    ("tables", "till_row", (BOARD_SEAT, DUES)), ("tables", "till_span", (BOARD_SEAT, DUES)),
    ("tablesums", "tables_plus", (BOARD_SEAT, DUES, DUES)), ("tablesums", "tables_times", (BOARD_SEAT, DUES, (1, 2))),
    ("tablesums", "flat_tables", (((2, 2), (1, 2, 3, 4)),)), ("spanpapers", "least_span", (BOARD_SEAT,)),
    ("spanpapers", "span_paper", (((2, 3), (5, 1, 0, 2, 7, 7)),)),
    ("spanpapers", "lets_span", (BOARD_SEAT, (DUES, SHARES, SHARES[1:2] + SHARES[:1] * 2 + SHARES[1:2]))),
    ("walks", "best_walk", (((2, 3), (5, 1, 0, 2, 7, 7)),)), ("walks", "lets_walk", (BOARD_SEAT, ((0, 1), (1, 0)))),
    ("circlespans", "single_of", (LATE, (0, 1))), ("circlespans", "piece_span", (LATE, (0, 1))),
    ("circlespans", "piece_spans", (LATE,)), ("circlespans", "circle_span", (LATE,)),
    ("circlespans", "corner_excess", (LATE,)), ("circlespans", "half_tables", (LATE,)), ("holds", "least_hold", (LATE,)),
    ("holds", "hold_paper", (LATE,)), ("holds", "lets_hold", (SEAT, HOLD)), ("mixtures", "mixture_of", (LATE, (1, 5))),
    ("mixtures", "mean_over", (SEAT, SHARES, (1, 3))), ("rules", "dues_at", (SEAT, DUES, (1, 3))),
    ("rules", "gains_at", (SEAT, DUES, (1, 3))), ("rules", "payments_at", (SEAT, DUES, (1, 3))),
    ("rules", "rule_till", (SEAT, DUES, (1, 3))), ("rulespans", "till_ends", (SEAT, DUES)),
    ("rulespans", "worst_gains", (SEAT, DUES)), ("rulespans", "never_short", (SEAT, DUES)),
    ("rulespans", "nobody_worse", (SEAT, DUES)), ("handing", "loss_tables", (LATE,)),
    ("handing", "handed_row", (PAIRS, (3, 1, 2, 4))), ("handing", "handed_tables", (PAIRS,)),
    ("stayings", "stay_tables", (PAIRS,)), ("gaps", "gap_sum", (0, 4, (2, 1))), ("gaps", "gap_till", (TRIO, (4, 1, 2))),
    ("gaps", "gap_tables", (LATE,)), ("claims", "is_claim", (SEAT, CLAIM)), ("claims", "is_claim", (SEAT, [CLAIM])),
    ("claims", "claim_of", (SEAT, DUES)), ("claims", "claim_by", (SEAT, CLAIM)),
    ("claims", "gain_told", (SEAT, CLAIM, 0, (4, 0), (1, 0))), ("claims", "times_all", (CLAIM, 3)),
    ("lies", "lie_of", (SEAT, CLAIM)), ("liechecker", "lets_lie", (SEAT, CLAIM, (0, 0, (4, 0), (0, 0)))),
    ("poolchecker", "is_pool", (POOL,)), ("poolchecker", "is_pool", ([[0, 1], ((0, 4),)],)),
    ("poolchecker", "lets_pool", (POOL,)), ("pools", "queue_pool", ((3, 1), POOL[1])),
    ("pools", "desk_pool", ((3, 1), POOL[1])), ("pools", "wants_pool", ((3, 1), 2, POOL[1])),
    ("poolgrants", "granted_units", (POOL, (1, 3))), ("poolgrants", "pool_worth", (POOL, (1, 3))),
    ("poolgrants", "units_fit", (POOL, (0, 1))), ("poolgrants", "units_fit", (POOL, [0, [1]])),
    ("poolboards", "pool_board", (POOL,)), ("poolboards", "pool_number", (POOL,)), ("poolboards", "pool_stays", (POOL,)),
    ("poolboards", "pool_span", (POOL,)), ("poolboards", "cost_difference", ((3, 1, 2),)),
    ("pooltables", "pool_tables", (POOL,)), ("pooltables", "pool_payments", (POOL, DUES, (1, 3))),
    ("pooltables", "pool_till", (POOL, DUES, (1, 3))), ("odds", "is_odds", (SEAT, EVEN)), ("odds", "is_odds", (SEAT, [[0]])),
    ("odds", "even_odds", (LATE,)), ("odds", "chance_from", (EVEN, 0, 3)), ("odds", "mean_worth", (SEAT, EVEN)),
    ("odds", "odds_shares", (SEAT, EVEN)), ("squares", "mixed_part", (SEAT, EVEN, (4, 4))),
    ("squares", "least_square", (SEAT, EVEN)), ("squares", "square_by_number", (SEAT, EVEN)),
    ("means", "least_mean", (SEAT, EVEN)), ("means", "mean_paper", (SEAT, EVEN)),
    ("means", "lets_mean", (SEAT, EVEN, (DUES, SHARES))), ("means", "pair_mean", EVEN),
    ("healing", "changed_circle", (SEAT, 0, "refuse")), ("healing", "healing_wishes", (SEAT, "promise")),
    ("healing", "joined_circle", (SEAT, ("limits", 3, (((0, 1, 2), 1),)), ((0, 4),))),
    ("losses", "loss_at", (SEAT, (3, 1), 0, "refuse")), ("losses", "worst_loss", (SEAT, 0, "promise")),
    ("losses", "dice_loss", (SEAT, (3, 1), "refuse")), ("losses", "worst_dice", (SEAT, "refuse")),
    ("losses", "best_dice", (SLOTS, "promise")), ("officeevents", "is_event", (LOG[1],)),
    ("officeevents", "is_event", (["take", [0]],)), ("officeevents", "is_log", (LOG,)), ("officeevents", "is_log", ([LOG],)),
    ("settling", "taken_lot", (TAKERS,)), ("settling", "round_circle", (2, SEAT[0], TAKERS)),
    ("settling", "settle_by", (2, SEAT[0], TAKERS, "others")),
    ("officereasons", "reason_of", (2, ((SEAT[0], TAKERS),), (), ("settle", 0, "handed"))),
    ("officereasons", "reason_of", (2, (), (), ["day", [0]])), ("journals", "days_of", (2, LOG)),
    ("journals", "tills_of", (2, LOG)), ("replaying", "cut_log", (LOG, 2)), ("eventtexts", "event_line", (LOG[0],)),
    ("eventtexts", "log_text", (LOG,)), ("eventreadings", "read_event", ("settle 0 refuse 2",)),
    ("eventreadings", "read_log", ("day\nhouse limits 2 ; 0 1 : 1",)),
)


def module_of(name):
    return importlib.import_module("someoneout." + name)


class Interface(Case):
    def test_functions(self):
        for file, calls in INTERFACE.items():
            for call in calls:
                function = getattr(module_of(file), call.split("(")[0])
                self.assertEqual(function.__name__ + str(inspect.signature(function)), call)
                self.assertEqual(function.__module__, "someoneout." + file)

    def test_classes(self):
        for made, file, calls in CLASSES:
            self.assertEqual(made.__module__, "someoneout." + file)
            for call in calls:
                method = vars(made)[call.split("(")[0]]
                self.assertEqual(method.__name__ + str(inspect.signature(method)), call)

    def test_arguments_stay_and_answers_too(self):
        for file, name, arguments in CALLS:
            function = getattr(module_of(file), name)
            before = copy.deepcopy(arguments)
            first = function(*arguments)
            self.exact(arguments, before)
            self.exact(function(*arguments), first)
            if name != "beside":
                names = list(inspect.signature(function).parameters)
                self.exact(function(**dict(zip(names, arguments))), first)

    def test_all_functions_are_called(self):
        asked = {name for _, name, _ in CALLS} | {"is_integer", "is_number", "minus", "times", "over", "less"}
        # An office is no plain value; its tests have these.
        asked |= {"replayed", "desk_line"}
        told = {call.split("(")[0] for calls in INTERFACE.values() for call in calls}
        self.assertEqual(asked, told)
