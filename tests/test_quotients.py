from fractions import Fraction

from someoneout.kinds import is_quotient
from someoneout.quotients import less, minus, over, plus, quotient_of, times
from tests.support import Case

WRONG = (True, None, 1, "1", (), (1,), (2, 4), (1, 0), (1, -2), (0, 2), [1, 2], (True, 1), (1, True), (1, 2, 3))


class Quotients(Case):
    def test_quotient_of(self):
        for top, bottom, wanted in ((2, 4, (1, 2)), (-2, 4, (-1, 2)), (2, -4, (-1, 2)), (-2, -4, (1, 2)),
                                    (0, 5, (0, 1)), (0, -5, (0, 1)), (7, 1, (7, 1)), (7, -1, (-7, 1)),
                                    (10 ** 39, 10 ** 38, (10, 1))):
            self.exact(quotient_of(top, bottom), wanted)

    def test_reckoning(self):
        many = [(0, 1), (1, 1), (-1, 1), (1, 2), (-1, 2), (2, 3), (7, 6), (-5, 4), (10 ** 40, 10 ** 39 + 1)]
        for one in many:
            for other in many:
                a, b = Fraction(*one), Fraction(*other)
                for function, wanted in ((plus, a + b), (minus, a - b), (times, a * b)):
                    given = function(one, other)
                    self.exact(given, (wanted.numerator, wanted.denominator))
                    self.assertTrue(is_quotient(given))
                self.exact(less(one, other), a < b)
                if b != 0:
                    self.exact(over(one, other), ((a / b).numerator, (a / b).denominator))

    def test_wrong_integers(self):
        for thing in (True, None, "1", (1,), [1], (1, 1)):
            self.not_usable("top", quotient_of, thing, 0)
            self.not_usable("top", quotient_of, thing, 2)
            self.not_usable("bottom", quotient_of, 2, thing)
        self.not_usable("bottom", quotient_of, 2, 0)

    def test_wrong_quotients(self):
        for function in (plus, minus, times, over, less):
            for thing in WRONG:
                self.not_usable("one", function, thing, (1, 2))
                self.not_usable("one", function, thing, thing)
                self.not_usable("other", function, (1, 2), thing)
        self.not_usable("other", over, (1, 2), (0, 1))
        self.not_usable("other", over, (0, 1), (0, 1))

    def test_by_name(self):
        self.exact(quotient_of(bottom=4, top=2), (1, 2))
        self.exact(over(other=(1, 2), one=(1, 3)), (2, 3))
        self.exact(less(other=(1, 2), one=(1, 3)), True)
