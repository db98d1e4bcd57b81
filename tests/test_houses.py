from someoneout.errors import NotUsable
from someoneout.housechecker import is_house
from someoneout.houses import beside, seats_house, size_of, windows_house
from tests.oracles import size_by_words
from tests.support import BESIDE, Case, EMPTY, LIMITS, ODD_THINGS, ROWS, SAMPLES, SLOTS, TABLE, WEB, random_houses

WRONG_NUMBERS = (True, False, None, -1, "1", (1,), [1], ())


class Making(Case):
    def test_sizes(self):
        for house in SAMPLES + EMPTY + tuple(random_houses(2, 100)):
            self.exact(size_of(house), size_by_words(house))

    def test_seats(self):
        self.exact(seats_house(3, 2), ("limits", 3, (((0, 1, 2), 2),)))
        self.exact(seats_house(1, 0), ("limits", 1, (((0,), 0),)))
        self.exact(seats_house(2, 10 ** 30), ("limits", 2, (((0, 1), 10 ** 30),)))
        self.exact(seats_house(0, 5), ("limits", 0, ()))
        self.exact(seats_house(40, 7), ("limits", 40, ((tuple(range(40)), 7),)))
        for thing in WRONG_NUMBERS:
            self.not_usable("seats", seats_house, 3, thing)
            self.not_usable("seats", seats_house, 0, thing)

    def test_windows(self):
        self.exact(windows_house(4, ((0, 2), (3, 3), (1, 2))), ("slots", 4, ((0, 1, 2), (3,), (1, 2))))
        self.exact(windows_house(0, ()), ("slots", 0, ()))
        self.exact(windows_house(many=12, windows=((0, 11),)), ("slots", 12, (tuple(range(12)),)))
        for thing in WRONG_NUMBERS:
            self.not_usable("many", windows_house, thing, None)
            self.not_usable("many", windows_house, thing, ())
        for thing in (None, True, 0, [], "", [(0, 1)], ((0, 1), None), ((0, 1), [0, 1]), ((1, 0),), ((0, 2),), ((-1, 0),),
                      ((0,),), ((0, 1, 1),), ((False, 1),), ((0, True),), (0, 1)):
            self.not_usable("windows", windows_house, 2, thing)
        self.not_usable("windows", windows_house, 0, ((0, 0),))

    def test_beside(self):
        self.exact(beside(LIMITS, WEB), ("beside", (LIMITS, WEB)))
        self.exact(beside(LIMITS, LIMITS, LIMITS), ("beside", (LIMITS,) * 3))
        self.exact(beside(TABLE, BESIDE, ROWS), ("beside", (TABLE,) + BESIDE[1] + (ROWS,)))
        self.exact(beside(BESIDE, BESIDE), ("beside", BESIDE[1] + BESIDE[1]))
        for house in SAMPLES + EMPTY:
            self.exact(beside(house), house)
            self.assertTrue(is_house(beside(house, SLOTS)))
            self.exact(size_of(beside(house, SLOTS)), size_of(house) + 6)

    def test_beside_refuses(self):
        self.refused(NotUsable, {"word": "houses", "at": -1}, beside)
        for thing in ODD_THINGS + (("limits", 1, ()) + ((),), ["limits", 1, ()]):
            self.refused(NotUsable, {"word": "houses", "at": 0}, beside, thing)
            self.refused(NotUsable, {"word": "houses", "at": 0}, beside, thing, thing)
            self.refused(NotUsable, {"word": "houses", "at": 2}, beside, LIMITS, WEB, thing, LIMITS, thing)
