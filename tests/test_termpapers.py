from someoneout.leasts import least_terms
from someoneout.termpapers import lets_terms
from tests.support import Case, EMPTY, ODD_THINGS, PAIRS, SEAT, TIED, TRIO, drawn_houses, wrong_lots


class TermPapers(Case):
    def test_drawn_houses(self):
        for house in TIED + tuple(drawn_houses(118, 100)):
            terms = least_terms(house)
            self.exact(lets_terms(house, terms), len(terms))
            for at in range(len(terms)):
                lot, term = terms[at]
                self.wrong_paper("left", -1, lets_terms, house, terms[:at] + terms[at + 1:])
                for other in (0, -term, term + 1, 10 ** 59):
                    self.wrong_paper("term", at, lets_terms, house, terms[:at] + ((lot, other),) + terms[at + 1:])
                self.wrong_paper("later", at + 1, lets_terms, house, terms[:at + 1] + terms[at:])
                if at:
                    swapped = terms[:at - 1] + (terms[at], terms[at - 1]) + terms[at + 1:]
                    self.wrong_paper("later", at, lets_terms, house, swapped)

    def test_without_wishes(self):
        for house in EMPTY:
            self.exact(lets_terms(house, ()), 0)
            self.wrong_paper("pair", 0, lets_terms, house, (((), 0),))
        self.exact(lets_terms(("limits", 2, (((0, 1), 0),)), ()), 0)

    def wrong(self, word, at, thing, house=SEAT[0]):
        self.wrong_paper(word, at, lets_terms, house, thing)

    def test_shape_and_pairs(self):
        true = (((0,), 1), ((0, 1), -1), ((1,), 1))
        self.exact(lets_terms(SEAT[0], true), 3)
        for thing in ODD_THINGS + (list(true),):
            if not isinstance(thing, tuple):
                self.wrong("shape", -1, thing)
            if thing != ():
                self.wrong("pair", 0, (thing,))
                self.wrong("pair", 1, (true[0], thing))
        for lot in wrong_lots(2) + ((),):
            self.wrong("pair", 1, (true[0], (lot, 1)))
        for term in (True, False, None, "1", (1,), [1]):
            self.wrong("pair", 0, (((0,), term),) + true[1:])
        self.wrong("pair", 2, true[:2] + (((1,), 1, 1),))
        self.wrong("pair", 2, true[:2] + ([(1,), 1],))

    def test_one_by_one(self):
        self.wrong("term", 0, (((0,), 2), None))
        self.wrong("later", 1, (((1,), 1), ((0,), 0), None))
        self.wrong("pair", 2, (((0,), 1), ((1,), 1), None))
        self.wrong("term", 1, (((0,), 1), ((0, 1), 0)), PAIRS[0])
        # A lot whose term is 0 is in no pair.
        self.wrong("term", 1, (((0,), 1), ((0, 1), 0), ((0, 1, 2), -1), ((1,), 1), ((2,), 1)), TRIO[0])
        self.wrong("left", -1, ())
        self.wrong("left", -1, (((0,), 1), ((1,), 1)))

    def test_by_name(self):
        self.exact(lets_terms(thing=(((0,), 1), ((0, 1), -1), ((1,), 1)), house=SEAT[0]), 3)
