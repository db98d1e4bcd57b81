"""The examples of the document, word for word."""

from someoneout import errors
from someoneout.bestpapers import best_paper, lets_best
from someoneout.circletexts import circle_line, house_line, read_house
from someoneout.families import house_by_lots, level_fault
from someoneout.gates import gate_of, is_best, possible_of, sure_of
from someoneout.grantclasses import Grant
from someoneout.grants import best_worth, granted, layers_of, lot_worth
from someoneout.heirs import heir_of, heirs_of
from someoneout.housechanges import promised_house
from someoneout.housechecker import lets_house
from someoneout.kinds import is_quotient, lot_number, lots_within
from someoneout.others import gain_by, loss_row, own_worth, without_person
from someoneout.piecepapers import lets_parting
from someoneout.pieces import pieces_of, ring_through
from someoneout.ringpapers import lets_ring, ring_in
from someoneout.rings import all_rings, cut_by, ring_by
from someoneout.seating import lets_crowd, lets_seats, seated
from someoneout.worthchanges import change_of, put_worth, worth_line, worth_with, worth_without
from someoneout.zonehouses import zone_house, zone_pieces
from someoneout.zones import zone_lots, zones_of
from tests.support import Case

NAMES = (circle_line, house_by_lots, house_line, is_quotient, level_fault, lets_house, lot_number, lots_within,
         promised_house, read_house, best_paper, lets_best, gate_of, is_best, possible_of, sure_of, Grant, best_worth,
         granted, layers_of, lot_worth, heir_of, heirs_of, gain_by, loss_row, own_worth, without_person, lets_parting,
         pieces_of, ring_through, lets_ring, ring_in, all_rings, cut_by, ring_by, lets_crowd, lets_seats, seated,
         change_of, put_worth, worth_line, worth_with, worth_without, zone_house, zone_pieces, zone_lots, zones_of)

EXAMPLES = """
    >>> SEAT = (("limits", 2, (((0, 1), 1),)), 2, (0, 1), ((0, 4), (0, 4)))
    >>> TRIO = (("limits", 3, (((0, 1, 2), 2),)), 3, (0, 1, 2), ((0, 4), (0, 4), (0, 4)))
    >>> PAIRS = (("limits", 4, (((0, 1), 1), ((2, 3), 1))), 4, (0, 1, 2, 3), ((0, 4), (0, 4), (0, 4), (0, 4)))

    >>> is_quotient((2, 4)), lot_number((0, 2)), lots_within((1, 3))
    (False, 5, ((), (1,), (3,), (1, 3)))

    >>> lets_house(("limits", 3, (((0, 1), 1), ((1, 2), 1))))
    raises InvalidPaper('cross', 1)

    >>> level_fault(3, ((), (0,), (0, 1), (2,))), house_by_lots(2, ((), (0,)))
    (('part', (0, 1), (1,)), ('table', 2, (0, 1, 0, 1)))

    >>> promised_house(TRIO[0], (0,))
    ('table', 2, (0, 1, 1, 1))

    >>> circle_line(SEAT), house_line(("slots", 2, ((0, 1), ())))
    ('limits 2 ; 0 1 : 1 | 2 ; 0 0 4 ; 1 0 4', 'slots 2 ; 0 1 ; -')
    >>> read_house("web 2 ; 0 1 1")
    raises InvalidText(0, 5)

    >>> granted(TRIO[0], (1, 3, 1)), best_worth(TRIO[0], (1, 3, 1))
    ((0, 1), 4)
    >>> lot_worth((5, 0, 2), (0, 2)), layers_of(TRIO[0], (1, 3, 1))
    (7, ((1, (0, 1, 2)), (3, (1,))))

    >>> best_paper(TRIO[0], (1, 3, 1)), lets_best(TRIO[0], (1, 3, 1), ((1, 2), (2, 1)))
    (((0, 1), (2, 1)), 4)

    >>> gate_of(SEAT[0], (3, 5), 0), sure_of(SEAT[0], (3, 5)), possible_of(SEAT[0], (3, 3))
    (5, (1,), (0, 1))
    >>> is_best(TRIO[0], (2, 0, 0), (0,))
    True

    >>> put_worth((3, 5), 0, 6), change_of(SEAT[0], (3, 5), 0, 5), worth_line(TRIO[0], (1, 3, 1), 1)
    ((6, 5), ((1,), (0,)), (2, 1))
    >>> worth_without(TRIO[0], (1, 3, 1), (0, 2)), worth_with(TRIO[0], (1, 3, 1), (0, 2))
    (3, 2)

    >>> heir_of(("limits", 1, ()), (3,), 0), heirs_of(TRIO[0], (1, 3, 1))
    (None, ((0, 2), (1, 2)))

    >>> web = ("web", 3, ((0, 1), (1, 2), (0, 2), (2, 2)))
    >>> ring_in(web, (0, 1)), ring_in(web, (0, 3)), lets_ring(web, (0, 1, 2, 3), (0, 1, 2))
    (None, (3,), 3)

    >>> slots = ("slots", 3, ((0, 1), (0,), (1,), (2,)))
    >>> seated(slots, (0, 1))
    ((0, 1), (1, 0))
    >>> lets_seats(slots, (2, 3), ((2, 1), (3, 2))), lets_crowd(slots, (0, 1, 2, 3), (0, 1, 2))
    (2, 2)

    >>> own_worth(TRIO, (1, 3, 1), 1), without_person(TRIO, (1, 3, 1), 1), loss_row(TRIO, (1, 3, 1))
    (3, 2, (1, 1, 0))

    >>> gain_by(SEAT, 0, (3, 4), (4, 4)), gain_by(SEAT, 1, (3, 4), (3, 4))
    (-1, 1)

    >>> one = Grant(SEAT[0], (3, 5))
    >>> one.lot(), one.worth(), one.gate(0), one.heir(1), one.put(0, 6).told()
    ((1,), 5, 5, 0, (('limits', 2, (((0, 1), 1),)), (6, 5)))

    >>> all_rings(("limits", 4, (((0, 1, 2), 1), ((3,), 0))))
    ((0, 1), (0, 2), (1, 2), (3,))
    >>> WEB = ("web", 3, ((0, 1), (1, 2), (0, 2), (0, 1)))
    >>> ring_by(WEB, (0, 1), 2), ring_by(WEB, (1,), 2), cut_by(WEB, (0, 1), 0)
    ((0, 1, 2), None, (0, 2, 3))

    >>> pieces_of(("limits", 5, (((0, 3), 1), ((1, 2, 4), 2), ((2,), 0))))
    ((0, 3), (1,), (2,), (4,))
    >>> ring_through(TRIO[0], 2, 0)
    (0, 1, 2)

    >>> lets_parting(("limits", 3, (((0, 1), 1),)), ((2,), (0, 1)))
    2
    >>> lets_parting(("limits", 3, (((0, 1), 1),)), ((0,), (1, 2)))
    raises InvalidPaper('ranks', -1)

    >>> LATE = (("limits", 2, (((0, 1), 1),)), 2, (0, 1), ((0, 4), (2, 6)))
    >>> zones_of(LATE), zone_lots(LATE, (0, 2))
    (((0, 2), (2, 4), (4, 6)), ((1,), (), (0,)))

    >>> zone_house(LATE, (0, 2)), zone_pieces(LATE, (2, 4))
    (('table', 1, (0, 0)), ((0, 1),))
"""


def cases():
    """Pairs of what is asked, and what shall come of it (None for an assignment)."""
    lines = [line.strip() for line in EXAMPLES.split("\n") if line.strip()]
    for at, line in enumerate(lines):
        if line.startswith(">>> "):
            answered = at + 1 < len(lines) and not lines[at + 1].startswith(">>> ")
            yield line[4:], lines[at + 1] if answered else None


class Examples(Case):
    def test_examples(self):
        names = {function.__name__: function for function in NAMES}
        many = 0
        for asked, answer in cases():
            with self.subTest(asked):
                if answer is None:
                    exec(asked, names)
                elif answer.startswith("raises "):
                    wanted = eval(answer[7:], dict(vars(errors)))
                    self.refused(wanted.__class__, vars(wanted), eval, asked, names)
                    many += 1
                else:
                    self.exact(eval(asked, names), eval(answer))
                    many += 1
        self.assertEqual(many, 28)
