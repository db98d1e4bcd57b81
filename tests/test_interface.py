"""Each name stands in its file with its parameters; arguments stay as they are; answers stay the same."""

import copy
import importlib
import inspect

from someoneout.circleclasses import Circle
from someoneout.grantclasses import Grant
from tests.support import Case, LIMITS, PAIRS, SEAT, SLOTS, TABLE, TRIO

TOLD = (1, 2, 3, 4, 5, 6)
LATE = (SEAT[0], 2, (0, 1), ((0, 4), (2, 6)))

INTERFACE = {
    "kinds": ("is_integer(thing)", "is_number(thing)", "is_quotient(thing)", "is_lot(size, thing)",
              "is_order(size, thing)", "lot_number(lot)", "lot_by(number)", "lots_within(lot)"),
    "quotients": ("quotient_of(top, bottom)", "plus(one, other)", "minus(one, other)", "times(one, other)",
                  "over(one, other)", "less(one, other)"),
    "housechecker": ("is_house(thing)", "lets_house(thing)"),
    "houses": ("size_of(house)", "seats_house(size, seats)", "windows_house(many, windows)", "beside(*houses)"),
    "ranks": ("rank_of(house, lot)", "is_free(house, lot)", "rank_table(house)"),
    "covers": ("covered_by(house, lot)", "barred_of(house)", "forced_of(house)", "all_bases(house)"),
    "families": ("level_fault(size, lots)", "lets_fault(size, lots, thing)", "house_by_lots(size, lots)"),
    "housechanges": ("as_table(house)", "refused_house(house, lot)", "promised_house(house, lot)",
                     "kept_house(house, lot)", "renamed_house(house, order)", "turned_house(house)"),
    "circles": ("is_circle(thing)", "own_lot(circle, person)", "left_out(circle, lot)", "ends_of(circle)",
                "is_telling(circle, thing)", "same_stretch(circle)"),
    "circlechecker": ("lets_circle(thing)",),
    "circlechanges": ("finer(circle, many)", "kept_circle(circle, lot)", "narrowed(circle, wish, low, high)",
                      "beside_circles(circle, other)"),
    "circletexts": ("house_line(house)", "circle_line(circle)", "read_house(text)", "read_circle(text)"),
    "grants": ("granted(house, telling)", "best_worth(house, telling)", "lot_worth(telling, lot)",
               "layers_of(house, telling)"),
    "bestpapers": ("best_paper(house, telling)", "lets_best(house, telling, thing)"),
    "gates": ("gate_of(house, telling, wish)", "sure_of(house, telling)", "possible_of(house, telling)",
              "is_best(house, telling, lot)"),
    "worthchanges": ("put_worth(telling, wish, worth)", "change_of(house, telling, wish, worth)",
                     "worth_line(house, telling, wish)", "worth_without(house, telling, lot)",
                     "worth_with(house, telling, lot)"),
    "heirs": ("heir_of(house, telling, wish)", "heirs_of(house, telling)"),
    "ringpapers": ("ring_in(house, lot)", "lets_ring(house, lot, thing)"),
    "seating": ("seated(house, lot)", "lets_seats(house, lot, thing)", "lets_crowd(house, lot, thing)"),
    "others": ("own_worth(circle, telling, person)", "without_person(circle, telling, person)",
               "others_lose(circle, telling, person)", "loss_row(circle, telling)", "loss_till(circle, telling)",
               "gain_by(circle, person, truth, told)"),
    "rings": ("is_ring(house, thing)", "all_rings(house)", "ring_by(house, lot, wish)", "cut_by(house, base, wish)"),
    "pieces": ("pieces_of(house)", "is_one_piece(house)", "piece_at(house, wish)", "ring_through(house, one, other)"),
    "piecepapers": ("lets_parting(house, thing)",),
    "zones": ("zones_of(circle)", "zone_lots(circle, zone)"),
    "zonehouses": ("zone_house(circle, zone)", "zone_pieces(circle, zone)"),
}
CIRCLE = ("__init__(self, house, people, owners, stretches)", "told(self)", "own(self, person)",
          "leaves_out(self, lot)", "finer(self, many)", "kept(self, lot)", "__add__(self, other)", "__len__(self)",
          "__eq__(self, other)")
GRANT = ("__init__(self, house, telling)", "lot(self)", "worth(self)", "gate(self, wish)", "heir(self, wish)",
         "put(self, wish, worth)", "told(self)", "__eq__(self, other)")

CALLS = (
    ("kinds", "is_lot", (4, (1, 2))), ("kinds", "is_order", (3, (2, 0, 1))), ("kinds", "lot_number", ((0, 3),)),
    ("kinds", "lot_by", (9,)), ("kinds", "lots_within", ((0, 3),)), ("kinds", "is_quotient", ([1, 2],)),
    ("quotients", "quotient_of", (6, 4)), ("quotients", "plus", ((1, 2), (1, 3))),
    ("housechecker", "is_house", (["limits", 2, [[0, 1], 1]],)), ("housechecker", "is_house", (LIMITS,)),
    ("housechecker", "lets_house", (LIMITS,)), ("houses", "size_of", (LIMITS,)), ("houses", "seats_house", (3, 1)),
    ("houses", "windows_house", (3, ((0, 1), (1, 2)))), ("houses", "beside", (LIMITS, TABLE)),
    ("ranks", "rank_of", (LIMITS, (0, 1))), ("ranks", "is_free", (LIMITS, (0, 1))), ("ranks", "rank_table", (LIMITS,)),
    ("covers", "covered_by", (LIMITS, (0,))), ("covers", "barred_of", (LIMITS,)), ("covers", "forced_of", (LIMITS,)),
    ("covers", "all_bases", (LIMITS,)), ("families", "level_fault", (3, ((), (0,), (0, 1), (1,), (2,)))),
    ("families", "lets_fault", (2, ((), (0, 1)), ("part", (0, 1), (0,)))), ("families", "house_by_lots", (1, ((), (0,)))),
    ("housechanges", "as_table", (LIMITS,)), ("housechanges", "refused_house", (LIMITS, (0, 4))),
    ("housechanges", "promised_house", (LIMITS, (0, 2))), ("housechanges", "kept_house", (LIMITS, (0, 2))),
    ("housechanges", "renamed_house", (TRIO[0], (2, 0, 1))), ("housechanges", "turned_house", (LIMITS,)),
    ("circles", "is_circle", (list(SEAT),)), ("circles", "own_lot", (SEAT, 1)), ("circles", "left_out", (SEAT, (1,))),
    ("circles", "ends_of", (SEAT,)), ("circles", "is_telling", (SEAT, [0, 4])), ("circles", "same_stretch", (SEAT,)),
    ("circlechecker", "lets_circle", (SEAT,)), ("circlechanges", "finer", (SEAT, 2)),
    ("circlechanges", "kept_circle", (PAIRS, (0, 3))), ("circlechanges", "narrowed", (SEAT, 0, 1, 2)),
    ("circlechanges", "beside_circles", (SEAT, SEAT)), ("circletexts", "house_line", (LIMITS,)),
    ("circletexts", "circle_line", (SEAT,)), ("circletexts", "read_house", ("web 2 ; 0 1",)),
    ("circletexts", "read_circle", ("web 1 ; 0 0 | 2 ; 1 0 4",)),
    ("grants", "granted", (LIMITS, TOLD)), ("grants", "best_worth", (LIMITS, TOLD)),
    ("grants", "lot_worth", (TOLD, (0, 3))), ("grants", "layers_of", (LIMITS, TOLD)),
    ("bestpapers", "best_paper", (LIMITS, TOLD)), ("bestpapers", "lets_best", (SEAT[0], (3, 5), ((1,), (1, 1)))),
    ("gates", "gate_of", (LIMITS, TOLD, 1)), ("gates", "sure_of", (LIMITS, TOLD)),
    ("gates", "possible_of", (LIMITS, TOLD)), ("gates", "is_best", (LIMITS, TOLD, (2, 3, 5))),
    ("worthchanges", "put_worth", (TOLD, 1, 9)), ("worthchanges", "change_of", (LIMITS, TOLD, 1, 9)),
    ("worthchanges", "worth_line", (LIMITS, TOLD, 1)), ("worthchanges", "worth_without", (LIMITS, TOLD, (2, 4))),
    ("worthchanges", "worth_with", (LIMITS, TOLD, (0, 5))), ("heirs", "heir_of", (LIMITS, TOLD, 2)),
    ("heirs", "heirs_of", (LIMITS, TOLD)), ("ringpapers", "ring_in", (LIMITS, (0, 1, 2, 3))),
    ("ringpapers", "lets_ring", (LIMITS, (0, 1, 4), (0, 1))), ("seating", "seated", (SLOTS, (0, 1, 4))),
    ("seating", "lets_seats", (SLOTS, (1, 4), ((1, 0), (4, 3)))), ("seating", "lets_crowd", (SLOTS, (0, 1, 3, 5), (3,))),
    ("others", "own_worth", (TRIO, (1, 3, 1), 1)), ("others", "without_person", (TRIO, (1, 3, 1), 1)),
    ("others", "others_lose", (TRIO, (1, 3, 1), 1)), ("others", "loss_row", (TRIO, (1, 3, 1))),
    ("others", "loss_till", (TRIO, (1, 3, 1))), ("others", "gain_by", (TRIO, 1, (1, 3, 1), (1, 0, 1))),
    ("rings", "is_ring", (LIMITS, [0, [1]])), ("rings", "is_ring", (LIMITS, (0, 1))), ("rings", "all_rings", (LIMITS,)),
    ("rings", "ring_by", (LIMITS, (0, 2), 3)), ("rings", "cut_by", (LIMITS, (0, 2, 5), 2)),
    ("pieces", "pieces_of", (LIMITS,)), ("pieces", "is_one_piece", (LIMITS,)), ("pieces", "piece_at", (LIMITS, 2)),
    ("pieces", "ring_through", (LIMITS, 3, 0)), ("piecepapers", "lets_parting", (SEAT[0], ((0, 1),))),
    ("zones", "zones_of", (LATE,)), ("zones", "zone_lots", (LATE, (2, 4))),
    ("zonehouses", "zone_house", (LATE, (2, 4))), ("zonehouses", "zone_pieces", (LATE, (2, 4))),
)


def module_of(name):
    return importlib.import_module("someoneout." + name)


class Interface(Case):
    def test_functions(self):
        for file, calls in INTERFACE.items():
            for call in calls:
                function = getattr(module_of(file), call.split("(")[0])
                self.assertEqual(function.__name__ + str(inspect.signature(function)), call)
                self.assertEqual(function.__module__, "someoneout." + file)

    def test_classes(self):
        for made, file, calls in ((Circle, "circleclasses", CIRCLE), (Grant, "grantclasses", GRANT)):
            self.assertEqual(made.__module__, "someoneout." + file)
            for call in calls:
                method = vars(made)[call.split("(")[0]]
                self.assertEqual(method.__name__ + str(inspect.signature(method)), call)

    def test_arguments_stay_and_answers_too(self):
        for file, name, arguments in CALLS:
            function = getattr(module_of(file), name)
            before = copy.deepcopy(arguments)
            first = function(*arguments)
            self.exact(arguments, before)
            self.exact(function(*arguments), first)
            if name != "beside":
                names = list(inspect.signature(function).parameters)
                self.exact(function(**dict(zip(names, arguments))), first)

    def test_all_functions_are_called(self):
        asked = {name for _, name, _ in CALLS} | {"is_integer", "is_number", "minus", "times", "over", "less"}
        told = {call.split("(")[0] for calls in INTERFACE.values() for call in calls}
        self.assertEqual(asked, told)
