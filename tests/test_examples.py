"""The examples of the document, word for word."""

from someoneout import errors
from someoneout.circletexts import circle_line, house_line, read_house
from someoneout.families import house_by_lots, level_fault
from someoneout.housechanges import promised_house
from someoneout.housechecker import lets_house
from someoneout.kinds import is_quotient, lot_number, lots_within
from tests.support import Case

NAMES = (circle_line, house_by_lots, house_line, is_quotient, level_fault, lets_house, lot_number, lots_within,
         promised_house, read_house)

EXAMPLES = """
    >>> SEAT = (("limits", 2, (((0, 1), 1),)), 2, (0, 1), ((0, 4), (0, 4)))
    >>> TRIO = (("limits", 3, (((0, 1, 2), 2),)), 3, (0, 1, 2), ((0, 4), (0, 4), (0, 4)))
    >>> PAIRS = (("limits", 4, (((0, 1), 1), ((2, 3), 1))), 4, (0, 1, 2, 3), ((0, 4), (0, 4), (0, 4), (0, 4)))

    >>> is_quotient((2, 4)), lot_number((0, 2)), lots_within((1, 3))
    (False, 5, ((), (1,), (3,), (1, 3)))

    >>> lets_house(("limits", 3, (((0, 1), 1), ((1, 2), 1))))
    raises InvalidPaper('cross', 1)

    >>> level_fault(3, ((), (0,), (0, 1), (2,))), house_by_lots(2, ((), (0,)))
    (('part', (0, 1), (1,)), ('table', 2, (0, 1, 0, 1)))

    >>> promised_house(TRIO[0], (0,))
    ('table', 2, (0, 1, 1, 1))

    >>> circle_line(SEAT), house_line(("slots", 2, ((0, 1), ())))
    ('limits 2 ; 0 1 : 1 | 2 ; 0 0 4 ; 1 0 4', 'slots 2 ; 0 1 ; -')
    >>> read_house("web 2 ; 0 1 1")
    raises InvalidText(0, 5)
"""


def cases():
    """Pairs of what is asked, and what shall come of it (None for an assignment)."""
    lines = [line.strip() for line in EXAMPLES.split("\n") if line.strip()]
    for at, line in enumerate(lines):
        if line.startswith(">>> "):
            answered = at + 1 < len(lines) and not lines[at + 1].startswith(">>> ")
            yield line[4:], lines[at + 1] if answered else None


class Examples(Case):
    def test_examples(self):
        names = {function.__name__: function for function in NAMES}
        many = 0
        for asked, answer in cases():
            with self.subTest(asked):
                if answer is None:
                    exec(asked, names)
                elif answer.startswith("raises "):
                    wanted = eval(answer[7:], dict(vars(errors)))
                    self.refused(wanted.__class__, vars(wanted), eval, asked, names)
                    many += 1
                else:
                    self.exact(eval(asked, names), eval(answer))
                    many += 1
        self.assertEqual(many, 6)
