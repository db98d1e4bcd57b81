"""Each name stands in its file with its parameters; arguments stay as they are; answers stay the same."""

import copy
import importlib
import inspect

from someoneout.circleclasses import Circle
from tests.support import Case, LIMITS, PAIRS, SEAT, TABLE, TRIO

INTERFACE = {
    "kinds": ("is_integer(thing)", "is_number(thing)", "is_quotient(thing)", "is_lot(size, thing)",
              "is_order(size, thing)", "lot_number(lot)", "lot_by(number)", "lots_within(lot)"),
    "quotients": ("quotient_of(top, bottom)", "plus(one, other)", "minus(one, other)", "times(one, other)",
                  "over(one, other)", "less(one, other)"),
    "housechecker": ("is_house(thing)", "lets_house(thing)"),
    "houses": ("size_of(house)", "seats_house(size, seats)", "windows_house(many, windows)", "beside(*houses)"),
    "ranks": ("rank_of(house, lot)", "is_free(house, lot)", "rank_table(house)"),
    "covers": ("covered_by(house, lot)", "barred_of(house)", "forced_of(house)", "all_bases(house)"),
    "families": ("level_fault(size, lots)", "lets_fault(size, lots, thing)", "house_by_lots(size, lots)"),
    "housechanges": ("as_table(house)", "refused_house(house, lot)", "promised_house(house, lot)",
                     "kept_house(house, lot)", "renamed_house(house, order)", "turned_house(house)"),
    "circles": ("is_circle(thing)", "own_lot(circle, person)", "left_out(circle, lot)", "ends_of(circle)",
                "is_telling(circle, thing)", "same_stretch(circle)"),
    "circlechecker": ("lets_circle(thing)",),
    "circlechanges": ("finer(circle, many)", "kept_circle(circle, lot)", "narrowed(circle, wish, low, high)",
                      "beside_circles(circle, other)"),
    "circletexts": ("house_line(house)", "circle_line(circle)", "read_house(text)", "read_circle(text)"),
}
CIRCLE = ("__init__(self, house, people, owners, stretches)", "told(self)", "own(self, person)",
          "leaves_out(self, lot)", "finer(self, many)", "kept(self, lot)", "__add__(self, other)", "__len__(self)",
          "__eq__(self, other)")

CALLS = (
    ("kinds", "is_lot", (4, (1, 2))), ("kinds", "is_order", (3, (2, 0, 1))), ("kinds", "lot_number", ((0, 3),)),
    ("kinds", "lot_by", (9,)), ("kinds", "lots_within", ((0, 3),)), ("kinds", "is_quotient", ([1, 2],)),
    ("quotients", "quotient_of", (6, 4)), ("quotients", "plus", ((1, 2), (1, 3))),
    ("housechecker", "is_house", (["limits", 2, [[0, 1], 1]],)), ("housechecker", "is_house", (LIMITS,)),
    ("housechecker", "lets_house", (LIMITS,)), ("houses", "size_of", (LIMITS,)), ("houses", "seats_house", (3, 1)),
    ("houses", "windows_house", (3, ((0, 1), (1, 2)))), ("houses", "beside", (LIMITS, TABLE)),
    ("ranks", "rank_of", (LIMITS, (0, 1))), ("ranks", "is_free", (LIMITS, (0, 1))), ("ranks", "rank_table", (LIMITS,)),
    ("covers", "covered_by", (LIMITS, (0,))), ("covers", "barred_of", (LIMITS,)), ("covers", "forced_of", (LIMITS,)),
    ("covers", "all_bases", (LIMITS,)), ("families", "level_fault", (3, ((), (0,), (0, 1), (1,), (2,)))),
    ("families", "lets_fault", (2, ((), (0, 1)), ("part", (0, 1), (0,)))), ("families", "house_by_lots", (1, ((), (0,)))),
    ("housechanges", "as_table", (LIMITS,)), ("housechanges", "refused_house", (LIMITS, (0, 4))),
    ("housechanges", "promised_house", (LIMITS, (0, 2))), ("housechanges", "kept_house", (LIMITS, (0, 2))),
    ("housechanges", "renamed_house", (TRIO[0], (2, 0, 1))), ("housechanges", "turned_house", (LIMITS,)),
    ("circles", "is_circle", (list(SEAT),)), ("circles", "own_lot", (SEAT, 1)), ("circles", "left_out", (SEAT, (1,))),
    ("circles", "ends_of", (SEAT,)), ("circles", "is_telling", (SEAT, [0, 4])), ("circles", "same_stretch", (SEAT,)),
    ("circlechecker", "lets_circle", (SEAT,)), ("circlechanges", "finer", (SEAT, 2)),
    ("circlechanges", "kept_circle", (PAIRS, (0, 3))), ("circlechanges", "narrowed", (SEAT, 0, 1, 2)),
    ("circlechanges", "beside_circles", (SEAT, SEAT)), ("circletexts", "house_line", (LIMITS,)),
    ("circletexts", "circle_line", (SEAT,)), ("circletexts", "read_house", ("web 2 ; 0 1",)),
    ("circletexts", "read_circle", ("web 1 ; 0 0 | 2 ; 1 0 4",)),
)


def module_of(name):
    return importlib.import_module("someoneout." + name)


class Interface(Case):
    def test_functions(self):
        for file, calls in INTERFACE.items():
            for call in calls:
                function = getattr(module_of(file), call.split("(")[0])
                self.assertEqual(function.__name__ + str(inspect.signature(function)), call)
                self.assertEqual(function.__module__, "someoneout." + file)

    def test_classes(self):
        self.assertEqual(Circle.__module__, "someoneout.circleclasses")
        for call in CIRCLE:
            method = vars(Circle)[call.split("(")[0]]
            self.assertEqual(method.__name__ + str(inspect.signature(method)), call)

    def test_arguments_stay_and_answers_too(self):
        for file, name, arguments in CALLS:
            function = getattr(module_of(file), name)
            before = copy.deepcopy(arguments)
            first = function(*arguments)
            self.exact(arguments, before)
            self.exact(function(*arguments), first)
            if name != "beside":
                names = list(inspect.signature(function).parameters)
                self.exact(function(**dict(zip(names, arguments))), first)

    def test_all_functions_are_called(self):
        asked = {name for _, name, _ in CALLS} | {"is_integer", "is_number", "minus", "times", "over", "less"}
        told = {call.split("(")[0] for calls in INTERFACE.values() for call in calls}
        self.assertEqual(asked, told)
