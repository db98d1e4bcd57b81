from itertools import product

from someoneout.circletexts import circle_line, house_line, read_circle, read_house
from someoneout.errors import InvalidRow, InvalidText
from tests.support import (BESIDE, Case, EMPTY, LIMITS, ODD_THINGS, PAIRS, ROWS, SAMPLES, SEAT, SLOTS, TABLE, TRIO, WEB,
                           random_houses)
from tests.test_circles import BARE, MANY, WATCH

LINES = (
    (LIMITS, "limits 6 ; 0 1 2 3 : 2 ; 0 1 : 1 ; 4 : 0"),
    (SLOTS, "slots 4 ; 0 1 ; 0 ; 1 ; - ; 2 3 ; 0 1"),
    (WEB, "web 4 ; 0 1 ; 1 2 ; 0 2 ; 2 2 ; 0 1 ; 2 3"),
    (ROWS, "rows 3 ; 1 0 ; 0 1 ; 1 1 ; 2 2 ; 0 0"),
    (TABLE, "table 3 ; 0 1 1 1 0 1 1 1"),
    (BESIDE, "limits 2 ; 0 1 : 1 + web 2 ; 0 1 ; 0 1 + rows 2 ; 1"),
    (("rows", 5, ((), ())), "rows 5 ; - ; -"),
    (("limits", 0, ()), "limits 0"),
    (("slots", 3, ()), "slots 3"),
    (("web", 0, ()), "web 0"),
    (("rows", 7, ()), "rows 7"),
    (("table", 0, (0,)), "table 0 ; 0"),
    (("beside", (("limits", 0, ()), ("table", 0, (0,)))), "limits 0 + table 0 ; 0"),
    (("limits", 1, (((0,), 10 ** 29),)), "limits 1 ; 0 : 1" + "0" * 29),
)
HUGE = 7 * 10 ** 4999 + 10 ** 40


class Lines(Case):
    def test_houses(self):
        for house, line in LINES:
            self.exact(house_line(house), line)
            self.exact(read_house(line), house)

    def test_circles(self):
        for circle, line in ((TRIO, "limits 3 ; 0 1 2 : 2 | 3 ; 0 0 4 ; 1 0 4 ; 2 0 4"), (BARE, "limits 0 | 2"),
                             (WATCH, "limits 2 ; 0 1 : 1 | 3 ; 0 0 4 ; 1 0 4"),
                             ((BESIDE, 2, (0, 1, 0, 1, 1), ((2, 10 ** 30),) * 5),
                              LINES[5][1] + " | 2" + "".join(f" ; {owner} 2 1" + "0" * 30 for owner in (0, 1, 0, 1, 1)))):
            self.exact(circle_line(circle), line)
            self.exact(read_circle(line), circle)

    def test_read_back(self):
        for house in SAMPLES + EMPTY + tuple(random_houses(10, 300)):
            self.exact(read_house(house_line(house)), house)
        for circle in (SEAT, TRIO, PAIRS, MANY, WATCH, BARE):
            self.exact(read_circle(circle_line(circle)), circle)
            self.exact(circle_line(circle), circle_line(circle))

    def test_numbers_of_thousands_of_figures(self):
        house = ("limits", 1, (((0,), HUGE),))
        line = "limits 1 ; 0 : 7" + "0" * 4958 + "1" + "0" * 40
        self.exact(house_line(house) == line, True)
        self.exact(read_house(line) == house, True)

    def test_wrong_texts(self):
        for read in (read_house, read_circle):
            for thing in (None, True, 0, (), [], ("web 2",), ["web 2"], "web 2\n", "\n", "web\t2", "web 2 ; 0 1" + chr(37),
                          chr(37), "web 2 " + chr(127), chr(31), "w" + chr(233) + "b 2", "web " + chr(0x662)):
                self.not_usable("text", read, thing)

    def test_all_other_signs_can_be_read(self):
        for code in range(32, 127):
            if code != 37:
                self.refused(InvalidText, {"line": 0, "field": 1 if code == 32 else 0}, read_house, "web" + chr(code))


class Fields(Case):
    def wrong(self, read, line, field):
        self.refused(InvalidText, {"line": 0, "field": field}, read, line)

    def test_house_fields(self):
        for line, field in (
                ("", 0), (" ", 0), ("web", 1), ("web ", 1), (" web 2", 0), ("web  2", 1), ("web 2 ", 2), ("seats 2", 0),
                ("beside 2", 0), ("Web 2", 0), ("web x", 1), ("web -1", 1), ("web 02", 1), ("web 00", 1), ("web +2", 1),
                ("web 2.0", 1), ("web 1_0", 1), ("web ;", 1), ("; web", 0), ("2", 0), ("-", 0), ("+", 0), ("|", 0),
                ("web 2 0", 2), ("web 2 ;", 3), ("web 2 ; ", 3), ("web 2 ; 0", 4), ("web 2 ; -", 3), ("web 2 ; 0 -", 4),
                ("web 2 ; 0 ;", 4), ("web 2 ; 0 1 ;", 6), ("web 2 ; 0 1 1", 5), ("web 2 ; 0 1  ", 5), ("web 2 ; 0 1 :", 5),
                ("web 2 ; 0 01", 4), ("web 2 | 2", 2), ("web 2 : 2", 2),
                ("limits 2 ;", 3), ("limits 2 ; -", 3), ("limits 2 ; : 1", 3), ("limits 2 ; 0", 4), ("limits 2 ; 0 1", 5),
                ("limits 2 ; 0 ;", 4), ("limits 2 ; 0 +", 4), ("limits 2 ; 0 1 :", 6), ("limits 2 ; 0 1 : :", 6),
                ("limits 2 ; 0 1 : 1 1", 7), ("limits 2 ; 0 1 : 1 :", 7), ("limits 2 ; 0 1 : 1 ;", 8),
                ("limits 2 ; 0 01 : 1", 4),
                ("slots 2 ;", 3), ("slots 2 ; ;", 3), ("slots 2 ; - 0", 4), ("slots 2 ; - -", 4), ("slots 2 ; 0 -", 4),
                ("slots 2 ; 0 ; - ; ", 7), ("slots 2 ; 0 ; - : 1", 6), ("rows 2 ; 0 1 ; -1", 6), ("rows 2 ; - 1", 4),
                ("table 0", 2), ("table 0 ;", 3), ("table 0 ; -", 3), ("table 0 ; 0 ;", 4), ("table 0 0", 2),
                ("table 1 ; 0 1 ; 0 1", 5), ("table 0 + web 2", 2), ("table 0 |", 2),
                ("web 2 +", 3), ("web 2 + ", 3), ("web 2 + +", 3), ("web 2 + web", 4), ("web 2 + beside 2", 3),
                ("web 2 ; 0 1 + 3", 6), ("web 2 ; + web 2", 3), ("table 0 ; 0 + web 2 ; 0 1 1", 10)):
            self.wrong(read_house, line, field)

    def test_circle_fields(self):
        for line, field in (
                ("", 0), ("limits 0", 2), ("limits 0 |", 3), ("limits 0 | ", 3), ("limits 0 | x", 3), ("limits 0 | 02", 3),
                ("limits 0 | 2 2", 4), ("limits 0 | 2 ;", 5), ("limits 0 | 2 ; 0", 6), ("limits 0 | 2 ; 0 0", 7),
                ("limits 0 | 2 ; 0 0 4 4", 8), ("limits 0 | 2 ; 0 0 4 ;", 9), ("limits 0 | 2 ; 0 0 4 |", 8),
                ("limits 0 | 2 ; - 0 4", 5), ("limits 0 | 2 ; 0 0 ; 4", 7), ("limits 0 | 2 + limits 0", 4),
                ("limits 0 ; | 2", 3), ("limits 0 + | 2", 3), ("limits 1 ; 0 | 2", 4), ("table 0 ; | 2", 3),
                ("slots 2 ; - ; 0 0", 7), ("| 2", 0), ("limits 0 || 2", 2), ("limits 0 | 2 ; 0 0 4 ", 8),
                ("limits 0 |  2", 3)):
            self.wrong(read_circle, line, field)

    def test_first_wrong_field_by_all_goings_on(self):
        # Each line of up to seven of these fields is held against the lines of the form themselves.
        numbers = ("0", "1")
        words = ("limits", "slots", "web", "table", ";", ":", "-", "+", "0", "01")
        rows = {"limits": [lot + (":", cap) for many in (1, 2, 3) for lot in product(numbers, repeat=many) for cap in numbers],
                "slots": [("-",)] + [lot for many in (1, 2, 3, 4) for lot in product(numbers, repeat=many)],
                "web": list(product(numbers, repeat=2)),
                "table": [lot for many in (1, 2, 3, 4) for lot in product(numbers, repeat=many)]}
        goes_on = set()
        whole = set()
        ends = [(word, size) for word in ("limits", "slots", "web") for size in numbers]
        plain = list(ends)
        plain += [start + (";",) + row for start in ends for row in rows[start[0]]]
        plain += [start + (";",) + one + (";",) + two for start in ends for one in rows[start[0]] for two in rows[start[0]]
                  if len(one) + len(two) < 6]
        plain += [("table", size, ";") + row for size in numbers for row in rows["table"]]
        lines = plain + [one + ("+",) + two for one in plain for two in plain if len(one) + len(two) < 10]
        for line in lines:
            whole.add(line[:8])
            for many in range(min(len(line), 5) + 1):
                goes_on.add(line[:many])
        for many in range(1, 6):
            for line in product(words, repeat=many):
                if line[0] in (":", "-", "+", "0", "01", ";") and many > 1:
                    continue
                wrong = [at for at in range(many) if line[:at + 1] not in goes_on]
                if wrong:
                    self.wrong(read_house, " ".join(line), wrong[0])
                elif line not in whole:
                    self.wrong(read_house, " ".join(line), many)
                else:
                    try:
                        read_house(" ".join(line))
                    except InvalidRow:
                        pass


class Rows(Case):
    def test_no_houses(self):
        for line, row in (
                ("limits 2 ; 0 0 : 1", ("limits", 2, (((0, 0), 1),))), ("limits 2 ; 2 : 1", ("limits", 2, (((2,), 1),))),
                ("limits 3 ; 0 1 : 1 ; 1 2 : 1", ("limits", 3, (((0, 1), 1), ((1, 2), 1)))),
                ("slots 2 ; 1 0", ("slots", 2, ((1, 0),))), ("web 2 ; 1 0", ("web", 2, ((1, 0),))),
                ("rows 4", ("rows", 4, ())), ("rows 2 ; 2", ("rows", 2, ((2,),))), ("rows 2 ; 1 ; -", ("rows", 2, ((1,), ()))),
                ("table 13 ; 0", ("table", 13, (0,))), ("table 1 ; 0", ("table", 1, (0,))),
                ("table 1 ; 0 2", ("table", 1, (0, 2))),
                ("limits 0 + web 0 ; 0 0", ("beside", (("limits", 0, ()), ("web", 0, ((0, 0),)))))):
            self.refused(InvalidRow, {"row": row}, read_house, line)
            circle = (row, 2, (1, 0), ((3, 1), (2, 2)))
            self.refused(InvalidRow, {"row": circle}, read_circle, line + " | 2 ; 1 3 1 ; 0 2 2")

    def test_no_circles(self):
        for line, row in (
                ("limits 1 | 2", (("limits", 1, ()), 2, (), ())), ("limits 0 | 1", (("limits", 0, ()), 1, (), ())),
                ("limits 0 | 2 ; 0 0 4", (("limits", 0, ()), 2, (0,), ((0, 4),))),
                ("limits 1 | 2 ; 2 0 4", (("limits", 1, ()), 2, (2,), ((0, 4),))),
                ("limits 1 | 2 ; 0 5 4", (("limits", 1, ()), 2, (0,), ((5, 4),)))):
            self.refused(InvalidRow, {"row": row}, read_circle, line)

    def test_the_form_comes_first(self):
        self.refused(InvalidText, {"line": 0, "field": 6}, read_house, "limits 2 ; 0 0 :")
        self.refused(InvalidText, {"line": 0, "field": 4}, read_circle, "rows 4 | 1 1")

    def test_by_name(self):
        self.exact(house_line(house=WEB), LINES[2][1])
        self.exact(read_house(text="web 0"), ("web", 0, ()))
        self.exact(circle_line(circle=BARE), "limits 0 | 2")
        self.exact(read_circle(text="limits 0 | 2"), BARE)
        for thing in ODD_THINGS:
            if not isinstance(thing, str):
                self.not_usable("text", read_circle, text=thing)
