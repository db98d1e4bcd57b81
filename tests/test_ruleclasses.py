import copy

from someoneout.ruleclasses import Rule
from someoneout.rules import dues_at, gains_at, payments_at, rule_till
from tests.support import Case, EMPTY, ODD_THINGS, SEAT, TRIO, wrong_tables

TABLES = (((1, 1), (3, 1)), ((1, 1), (3, 1)))
SECONDS = (((0, 1), (4, 1)), ((0, 1), (4, 1)))


class Rules(Case):
    def test_answers(self):
        rule = Rule(SEAT, TABLES)
        before = copy.deepcopy(vars(rule))
        for telling in ((0, 0), (1, 3), (4, 4), (2, 2)):
            for _ in range(2):
                self.exact(rule.dues(telling), dues_at(SEAT, TABLES, telling))
                self.exact(rule.payments(telling), payments_at(SEAT, TABLES, telling))
                self.exact(rule.till(telling), rule_till(SEAT, TABLES, telling))
                self.exact(rule.gains(telling), gains_at(SEAT, TABLES, telling))
        self.exact(rule.told(), (SEAT, TABLES))
        self.exact(vars(rule), before)
        self.exact(Rule(tables=TABLES, circle=SEAT).dues(telling=(1, 3)), ((5, 2), (3, 2)))
        for house in EMPTY:
            self.exact(Rule((house, 2, (), ()), (((1, 2),), ((-3, 1),))).till(()), (-5, 2))

    def test_equal(self):
        rule = Rule(SEAT, TABLES)
        self.assertTrue(rule == Rule(copy.deepcopy(SEAT), copy.deepcopy(TABLES)))
        self.assertFalse(rule != Rule(SEAT, TABLES))
        for other in (Rule(SEAT, SECONDS), Rule((SEAT[0], 2, (1, 0), SEAT[3]), TABLES), (SEAT, TABLES), None, TABLES):
            self.assertFalse(rule == other)
            self.assertTrue(rule != other)

    def test_wrong_parameters(self):
        for thing in ODD_THINGS + (list(SEAT), SEAT[:3], SEAT + (0,), (SEAT[0], 1) + SEAT[2:], (SEAT[0], True) + SEAT[2:],
                                   (SEAT[0], 2, [0, 1], SEAT[3]), (SEAT[0], 2, (0, 2), SEAT[3])):
            self.not_usable("circle", Rule, thing, None)
        for thing in wrong_tables((2, 2)):
            self.not_usable("tables", Rule, SEAT, thing)
        self.not_usable("tables", Rule, TRIO, TABLES)
        rule = Rule(SEAT, TABLES)
        odd = tuple(thing for thing in ODD_THINGS if thing not in ((0, 0), (1, 0)))
        for method in (rule.dues, rule.payments, rule.till, rule.gains):
            for thing in odd + ((5, 0), (0,), (), (0, 0, 0), [0, 0], (True, 0)):
                self.not_usable("telling", method, thing)
