"""Events and logs, read from lines."""

from someoneout.circletexts import is_line_text, take_house
from someoneout.demands import need
from someoneout.errors import InvalidRow
from someoneout.fieldreading import Fields
from someoneout.officeevents import ALONE, NUMBERS, WHOLE_WAYS, is_event

EVENT_WORDS = ("person", "house", "take", "drop", "narrow", "tell", "settle", "day")
WAY_WORDS = ("handed", "others", "refuse", "promise")


def read_event(text):
    """The event that the line tells."""
    need(is_line_text(text), "text")
    return event_in(0, text)


def read_log(text):
    """The log that the lines tell."""
    need(isinstance(text, str), "text")
    lines = text.split("\n")
    need(all([is_line_text(line) for line in lines]), "text")
    if text == "":
        return ()
    return tuple([event_in(number, line) for number, line in enumerate(lines)])


def event_in(number, line):
    """The event that the line with this number tells."""
    fields = Fields(number, line.split(" "))
    event = take_event(fields)
    fields.refuse_unless(fields.ended())
    if not is_event(event):
        raise InvalidRow(event)
    return event


def take_event(fields):
    """Read what is an event by its form."""
    word = fields.take_word(EVENT_WORDS)
    if word in ALONE:
        return (word,)
    if word == "house":
        return (word, take_house(fields))
    if word == "settle":
        number = fields.take_number()
        return (word, number, take_way(fields))
    return (word,) + tuple([fields.take_number() for _ in range(NUMBERS[word])])


def take_way(fields):
    """Read a way to settle a round."""
    word = fields.take_word(WAY_WORDS)
    if word in WHOLE_WAYS:
        return word
    return (word, fields.take_number())
