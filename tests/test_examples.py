"""The examples of the document, word for word."""

import importlib
import pathlib

from someoneout import errors
from tests.support import Case

FOLDER = pathlib.Path(__file__).resolve().parent.parent / "someoneout"


EXAMPLES = """
    >>> SEAT = (("limits", 2, (((0, 1), 1),)), 2, (0, 1), ((0, 4), (0, 4)))
    >>> TRIO = (("limits", 3, (((0, 1, 2), 2),)), 3, (0, 1, 2), ((0, 4), (0, 4), (0, 4)))
    >>> PAIRS = (("limits", 4, (((0, 1), 1), ((2, 3), 1))), 4, (0, 1, 2, 3), ((0, 4), (0, 4), (0, 4), (0, 4)))

    >>> is_quotient((2, 4)), lot_number((0, 2)), lots_within((1, 3))
    (False, 5, ((), (1,), (3,), (1, 3)))

    >>> lets_house(("limits", 3, (((0, 1), 1), ((1, 2), 1))))
    raises InvalidPaper('cross', 1)

    >>> level_fault(3, ((), (0,), (0, 1), (2,))), house_by_lots(2, ((), (0,)))
    (('part', (0, 1), (1,)), ('table', 2, (0, 1, 0, 1)))

    >>> promised_house(TRIO[0], (0,))
    ('table', 2, (0, 1, 1, 1))

    >>> circle_line(SEAT), house_line(("slots", 2, ((0, 1), ())))
    ('limits 2 ; 0 1 : 1 | 2 ; 0 0 4 ; 1 0 4', 'slots 2 ; 0 1 ; -')
    >>> read_house("web 2 ; 0 1 1")
    raises InvalidText(0, 5)

    >>> granted(TRIO[0], (1, 3, 1)), best_worth(TRIO[0], (1, 3, 1))
    ((0, 1), 4)
    >>> lot_worth((5, 0, 2), (0, 2)), layers_of(TRIO[0], (1, 3, 1))
    (7, ((1, (0, 1, 2)), (3, (1,))))

    >>> best_paper(TRIO[0], (1, 3, 1)), lets_best(TRIO[0], (1, 3, 1), ((1, 2), (2, 1)))
    (((0, 1), (2, 1)), 4)

    >>> gate_of(SEAT[0], (3, 5), 0), sure_of(SEAT[0], (3, 5)), possible_of(SEAT[0], (3, 3))
    (5, (1,), (0, 1))
    >>> is_best(TRIO[0], (2, 0, 0), (0,))
    True

    >>> put_worth((3, 5), 0, 6), change_of(SEAT[0], (3, 5), 0, 5), worth_line(TRIO[0], (1, 3, 1), 1)
    ((6, 5), ((1,), (0,)), (2, 1))
    >>> worth_without(TRIO[0], (1, 3, 1), (0, 2)), worth_with(TRIO[0], (1, 3, 1), (0, 2))
    (3, 2)

    >>> heir_of(("limits", 1, ()), (3,), 0), heirs_of(TRIO[0], (1, 3, 1))
    (None, ((0, 2), (1, 2)))

    >>> web = ("web", 3, ((0, 1), (1, 2), (0, 2), (2, 2)))
    >>> ring_in(web, (0, 1)), ring_in(web, (0, 3)), lets_ring(web, (0, 1, 2, 3), (0, 1, 2))
    (None, (3,), 3)

    >>> slots = ("slots", 3, ((0, 1), (0,), (1,), (2,)))
    >>> seated(slots, (0, 1))
    ((0, 1), (1, 0))
    >>> lets_seats(slots, (2, 3), ((2, 1), (3, 2))), lets_crowd(slots, (0, 1, 2, 3), (0, 1, 2))
    (2, 2)

    >>> own_worth(TRIO, (1, 3, 1), 1), without_person(TRIO, (1, 3, 1), 1), loss_row(TRIO, (1, 3, 1))
    (3, 2, (1, 1, 0))

    >>> gain_by(SEAT, 0, (3, 4), (4, 4)), gain_by(SEAT, 1, (3, 4), (3, 4))
    (-1, 1)

    >>> one = Grant(SEAT[0], (3, 5))
    >>> one.lot(), one.worth(), one.gate(0), one.heir(1), one.put(0, 6).told()
    ((1,), 5, 5, 0, (('limits', 2, (((0, 1), 1),)), (6, 5)))

    >>> all_rings(("limits", 4, (((0, 1, 2), 1), ((3,), 0))))
    ((0, 1), (0, 2), (1, 2), (3,))
    >>> WEB = ("web", 3, ((0, 1), (1, 2), (0, 2), (0, 1)))
    >>> ring_by(WEB, (0, 1), 2), ring_by(WEB, (1,), 2), cut_by(WEB, (0, 1), 0)
    ((0, 1, 2), None, (0, 2, 3))

    >>> pieces_of(("limits", 5, (((0, 3), 1), ((1, 2, 4), 2), ((2,), 0))))
    ((0, 3), (1,), (2,), (4,))
    >>> ring_through(TRIO[0], 2, 0)
    (0, 1, 2)

    >>> lets_parting(("limits", 3, (((0, 1), 1),)), ((2,), (0, 1)))
    2
    >>> lets_parting(("limits", 3, (((0, 1), 1),)), ((0,), (1, 2)))
    raises InvalidPaper('ranks', -1)

    >>> LATE = (("limits", 2, (((0, 1), 1),)), 2, (0, 1), ((0, 4), (2, 6)))
    >>> zones_of(LATE), zone_lots(LATE, (0, 2))
    (((0, 2), (2, 4), (4, 6)), ((1,), (), (0,)))

    >>> zone_house(LATE, (0, 2)), zone_pieces(LATE, (2, 4))
    (('table', 1, (0, 0)), ((0, 1),))

    >>> full_zones(LATE), stays(LATE)
    ((((2, 4), (0, 1)),), False)
    >>> APART = (("limits", 2, (((0, 1), 1),)), 2, (0, 1), ((0, 4), (4, 9)))
    >>> full_pieces(APART), stays(APART)
    (((0, 1),), True)
    >>> lets_stay(APART, ((((0,), 1),), (((1,), 0),)))
    2
    >>> cube_difference(SEAT, (0, 0), (4, 4)), lets_break(TRIO, ((0, 0, 0), (4, 4, 4)))
    (-4, -4)
    >>> carved(TRIO[0], (0, 2)), carved(TRIO[0], (0, 1, 2))
    (((1,), ()), ((), ()))
    >>> binding_limits(("limits", 4, (((0, 1, 2), 2), ((0, 1), 1), ((3,), 0))))
    ((0, 1),)
    >>> Parted(SEAT).zones()
    (((0, 4), ((0, 1),)),)
    >>> signed_sum(TRIO[0]), number_of(PAIRS[0])
    (1, 0)
    >>> number_in(PAIRS[0], (0, 1)), number_in(PAIRS[0], (0, 2))
    (1, 0)
    >>> taken_apart(TRIO[0], 0)
    (0, 1)
    >>> piece_numbers(PAIRS[0])
    (((0, 1), 1), ((2, 3), 1))
    >>> inner_least(TRIO[0], (0, 1, 2), (0, 1)), outer_least(TRIO[0], (0, 1, 2), (1, 2))
    ((0, 1), (0,))
    >>> lean_bases(TRIO[0], (0, 1, 2))
    ((0, 2),)
    >>> spread_of(TRIO[0], (0, 1, 2))
    ((0, 1, 1), (1, 0, 1), (2, 0, 1))
    >>> lets_lean(TRIO[0], (0, 1, 2), (0, 2))
    0
    >>> signed_ranks(TRIO[0]), limits_signed(PAIRS[0])
    ((1, -3, 2), (1, -2, 1))
    >>> limits_number(TRIO[0]), seats_number(1, 3), seats_number(4, 2), seats_number(4, 4)
    (1, 1, 2, 0)
    >>> twin_lots(PAIRS[0]), partner_lots(TRIO[0])
    (((0, 1), (2, 3)), ((0, 1, 2),))
    >>> twins_refused(PAIRS[0]), partners_promised(TRIO[0])
    (('table', 2, (0, 1, 1, 2)), ('table', 1, (0, 0)))
    >>> term_of(TRIO[0], (0, 1))
    0
    >>> least_terms(TRIO[0])
    (((0,), 1), ((0, 1, 2), -1), ((1,), 1), ((2,), 1))
    >>> worth_by_terms(least_terms(TRIO[0]), (5, 3, 1))
    8
    >>> ranks_by_terms(2, (((0,), 1), ((1,), 1), ((0, 1), -1)))
    (0, 1, 1, 1)
    >>> lets_terms(SEAT[0], (((0,), 1), ((0, 1), -1), ((1,), 1)))
    3
    >>> corner_difference(SEAT[0], (1, 3), (4, 2)), level_difference(TRIO[0], 1, 3)
    (1, -2)
    >>> Number(TRIO[0]).turned().told()
    ('table', 3, (0, 1, 1, 1, 1, 1, 1, 1))
    >>> LATER = (("limits", 2, ()), 2, (1, 1), ((0, 3), (3, 5)))
    >>> end_rows(LATER, 1), place_of(LATER, (3, 3)), board_of(SEAT)
    (((0, 3), (0, 5), (3, 3), (3, 5)), (0, 2), ((2, 2), (0, 4, 4, 4)))
    >>> mixed_at(board_of(SEAT), (0, 0), (1, 1))
    -4
    >>> DUES = (((1, 1), (3, 1)), ((1, 1), (3, 1)))
    >>> till_row(board_of(SEAT), DUES), till_span(board_of(SEAT), DUES)
    (((2, 1), (0, 1), (0, 1), (2, 1)), (2, 1))
    >>> FIRST, SECOND = ((0, 1), (1, 2), (1, 2), (0, 1)), ((1, 2), (0, 1), (0, 1), (1, 2))
    >>> lets_span(board_of(SEAT), (DUES, FIRST, SECOND))
    (2, 1)
    >>> COURT = (("limits", 4, (((0, 1, 2, 3), 2),)), 2, (0, 0, 1, 1), ((0, 1),) * 4)
    >>> piece_spans(COURT), single_of(COURT, (0, 1, 2, 3)), circle_span(TRIO)
    ((((0, 1, 2, 3), (1, 1)),), None, (2, 1))
    >>> SECONDS = (((0, 1), (4, 1)), ((0, 1), (4, 1)))
    >>> lets_hold(SEAT, (SECONDS, ((0, 1), (0, 1), (0, 1), (1, 1)), ((0, 1), (1, 1), (1, 1), (0, 1))))
    (4, 1)
    >>> least_hold((("limits", 3, (((0, 1, 2), 1),)), 3, (0, 1, 2), ((0, 1),) * 3))
    (2, 3)
    >>> TABLES = (((1, 1), (3, 1)), ((1, 1), (3, 1)))
    >>> WATCH = (SEAT[0], 3, (0, 1), SEAT[3])
    >>> mixture_of(SEAT, (1, 3))
    (((0, 0), (1, 4)), ((0, 4), (1, 2)), ((4, 4), (1, 4)))
    >>> mean_over(SEAT, ((0, 1), (4, 1), (4, 1), (4, 1)), (1, 3))
    (3, 1)
    >>> dues_at(SEAT, TABLES, (1, 3))
    ((5, 2), (3, 2))
    >>> payments_at(SEAT, TABLES, (1, 3))
    ((-1, 2), (3, 2))
    >>> rule_till(SEAT, TABLES, (1, 3))
    (1, 1)
    >>> till_ends(SEAT, TABLES)
    ((0, 1), (0, 4), (2, 1), (0, 0))
    >>> worst_gains(SEAT, TABLES)
    ((-1, 1), (-1, 1))
    >>> loss_tables(SEAT)
    (((0, 1), (4, 1)), ((0, 1), (4, 1)))
    >>> handed_row(PAIRS, (3, 1, 2, 4))
    (-1, 0, -1, 2)
    >>> handed_tables(WATCH)
    (((0, 1), (4, 1)), ((0, 1), (4, 1)), ((0, 1), (4, 1), (4, 1), (0, 1)))
    >>> gap_sum(0, 4, (2, 1))
    (1, 2)
    >>> gap_till(TRIO, (4, 1, 2))
    (1, 2)
    >>> PAID = (((0, 1), (0, 1), (4, 1), (4, 1)), ((0, 1), (4, 1), (0, 1), (0, 1)))
    >>> CLAIM = claim_by(SEAT, PAID)
    >>> CLAIM
    (((0, 1), (4, 1), (4, 1), (4, 1)), ((0, 1), (4, 1), (4, 1), (4, 1)))
    >>> gain_told(SEAT, CLAIM, 0, (4, 0), (1, 0))
    (3, 1)
    >>> lets_lie(SEAT, CLAIM, (0, 0, (4, 0), (0, 0)))
    (2, 1)
    >>> queue_pool((1, 3, 0), ((0, 4), (0, 4), (0, 9)))
    ((0, 3, 3, 5, 3, 5, 5, 5), ((0, 4), (0, 4), (0, 9)))
    >>> POOL = ((0, 1, 1, 1), ((0, 4), (0, 4)))
    >>> pool_board(POOL), pool_span(POOL), cost_difference((1, 3, 0))
    (((2, 2), (0, 4, 4, 4)), (2, 1), 1)
    >>> pool_payments(POOL, (((1, 1), (3, 1)), ((1, 1), (3, 1))), (1, 3))
    ((-1, 2), (3, 2))
    >>> EVEN = (((0, 1), (4, 1)), ((0, 1), (4, 1)))
    >>> chance_from(EVEN, 0, 3), mean_worth(SEAT, EVEN)
    ((1, 2), (3, 1))
    >>> mixed_part(SEAT, EVEN, (4, 4)), square_by_number(SEAT, EVEN)
    ((-1, 1), (1, 1))
    >>> lets_mean(SEAT, EVEN, ((((1, 1), (3, 1)), ((1, 1), (3, 1))), ((0, 1), (1, 2), (1, 2), (0, 1))))
    (1, 1)
    >>> changed_circle(SEAT, 0, "refuse")
    (("table", 1, (0, 1)), 2, (1,), ((0, 4),))
    >>> loss_at(SEAT, (3, 1), 0, "refuse"), worst_dice(SEAT, "refuse"), best_dice(SEAT[0], "refuse")
    (2, ((2, 1), (0, 4)), ((1, 2), (0, 1)))
    >>> TWO = (("limits", 2, (((0, 1), 1),)), ((0, 0, 4, 3), (1, 0, 4, 1)))
    >>> settle_by(2, TWO[0], TWO[1], "others")
    ((0,), (1, 0), 1)
    >>> settle_by(2, TWO[0], TWO[1], ("promise", 1))
    ((1,), (0, 0), 0)
    >>> office = Office(2)
    >>> office.house_in(TWO[0])
    >>> office.take(0, 1, 1, 0, 4)
    >>> office.tell(0, 1, 3)
    >>> office.settle(0, "handed")
    ((1,), (0, 0), 0)
    >>> days_of(2, (("day",), ("person",), ("day",), ("person",)))
    ((0, 0), (0, 0, 0))
"""


def cases():
    """Pairs of what is asked, and what shall come of it (None for an assignment)."""
    lines = [line.strip() for line in EXAMPLES.split("\n") if line.strip()]
    for at, line in enumerate(lines):
        if line.startswith(">>> "):
            answered = at + 1 < len(lines) and not lines[at + 1].startswith(">>> ")
            yield line[4:], lines[at + 1] if answered else None


def all_names():
    """All functions and classes of the package by their names, each from the file that defines it."""
    names = {}
    for path in sorted(FOLDER.glob("*.py")):
        module = importlib.import_module("someoneout." + path.stem)
        names.update((name, thing) for name, thing in vars(module).items()
                     if getattr(thing, "__module__", None) == module.__name__)
    return names


class Examples(Case):
    def test_examples(self):
        names = all_names()
        many = 0
        for asked, answer in cases():
            with self.subTest(asked):
                if answer is None:
                    exec(asked, names)
                elif answer.startswith("raises "):
                    wanted = eval(answer[7:], dict(vars(errors)))
                    self.refused(wanted.__class__, vars(wanted), eval, asked, names)
                    many += 1
                else:
                    self.exact(eval(asked, names), eval(answer))
                    many += 1
        self.assertEqual(many, 88)
