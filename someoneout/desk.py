"""The desk of an office: lines that do something, and lines that ask."""

from someoneout.circletexts import is_line_text, numbers_text
from someoneout.demands import need
from someoneout.eventreadings import read_event
from someoneout.fieldreading import Fields
from someoneout.figures import figures_of
from someoneout.offices import Office

PLAIN_ASKS = ("people", "till")
ASKS = ("people", "till", "account", "stays", "span", "granted")


def desk_line(office, text):
    """Do what the line tells, or answer what it asks."""
    need(isinstance(office, Office), "office")
    need(is_line_text(text), "text")
    fields = Fields(0, text.split(" "))
    if not any([fields.sees(word) for word in ASKS]):
        office.go(read_event(text))
        return "done"
    word = fields.take_word(ASKS)
    number = None if word in PLAIN_ASKS else fields.take_number()
    fields.refuse_unless(fields.ended())
    return answer(office, word, number)


def answer(office, word, number):
    """What the office tells, as a string."""
    if word == "people":
        return integer_text(office.people_now())
    if word == "till":
        return integer_text(office.till_now())
    if word == "account":
        return integer_text(office.account(number))
    if word == "stays":
        return "yes" if office.stays_in(number) else "no"
    if word == "span":
        top, bottom = office.span_in(number)
        return integer_text(top) + "/" + integer_text(bottom)
    return lot_text(office.granted_in(number))


def integer_text(number):
    """The figures of the integer."""
    return figures_of(number) if number >= 0 else "-" + figures_of(-number)


def lot_text(lot):
    """The lot as fields; a sign of its own for none, and a word for no lot."""
    if lot is None:
        return "none"
    return "-" if len(lot) == 0 else numbers_text(lot)
