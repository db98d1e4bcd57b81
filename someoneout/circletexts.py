"""Houses and circles as lines, and read from them."""

from someoneout.circles import is_circle
from someoneout.demands import need
from someoneout.errors import InvalidRow
from someoneout.fieldreading import Fields
from someoneout.figures import figures_of
from someoneout.housechecker import is_house

# A house of "beside" has no word of its own in a line.
PLAIN_WORDS = ("limits", "slots", "web", "rows", "table")
PERCENT = 37


def house_line(house):
    """The line of the house."""
    if house[0] == "beside":
        return " + ".join([plain_line(part) for part in house[1]])
    return plain_line(house)


def plain_line(house):
    """The line of a house that is not one of "beside"."""
    word, size, rows = house
    fields = [word, figures_of(size)]
    if word == "table":
        rows = (rows,)
    for row in rows:
        fields.append(";")
        fields.append(row_text(word, row))
    return " ".join(fields)


def row_text(word, row):
    """The fields of a row."""
    if word == "limits":
        return numbers_text(row[0]) + " : " + figures_of(row[1])
    if len(row) == 0:
        return "-"
    return numbers_text(row)


def numbers_text(numbers):
    """The numbers as fields."""
    return " ".join([figures_of(number) for number in numbers])


def circle_line(circle):
    """The line of the circle."""
    house, people, owners, stretches = circle
    fields = [house_line(house), "|", figures_of(people)]
    for owner, (low, high) in zip(owners, stretches):
        fields.append(";")
        fields.append(numbers_text((owner, low, high)))
    return " ".join(fields)


def is_line_text(thing):
    """Whether any value is a string that can be read as a line."""
    if not isinstance(thing, str):
        return False
    codes = [ord(sign) for sign in thing]
    return all([32 <= code <= 126 and code != PERCENT for code in codes])


def read_house(text):
    """The house that the line tells."""
    need(is_line_text(text), "text")
    fields = Fields(0, text.split(" "))
    house = take_house(fields)
    fields.refuse_unless(fields.ended())
    if not is_house(house):
        raise InvalidRow(house)
    return house


def read_circle(text):
    """The circle that the line tells."""
    need(is_line_text(text), "text")
    fields = Fields(0, text.split(" "))
    circle = take_circle(fields)
    fields.refuse_unless(fields.ended())
    if not is_circle(circle):
        raise InvalidRow(circle)
    return circle


def take_house(fields):
    """Read what is a house by its form."""
    houses = [take_plain(fields)]
    while fields.sees("+"):
        fields.skip("+")
        houses.append(take_plain(fields))
    if len(houses) == 1:
        return houses[0]
    return ("beside", tuple(houses))


def take_plain(fields):
    """Read what is, by its form, a house that is not one of "beside"."""
    word = fields.take_word(PLAIN_WORDS)
    size = fields.take_number()
    if word == "table":
        fields.skip(";")
        return (word, size, fields.take_numbers())
    rows = []
    while fields.sees(";"):
        fields.skip(";")
        rows.append(take_row(fields, word))
    return (word, size, tuple(rows))


def take_row(fields, word):
    """Read what is a row by its form."""
    if word == "limits":
        lot = fields.take_numbers()
        fields.skip(":")
        return (lot, fields.take_number())
    if word == "web":
        one = fields.take_number()
        return (one, fields.take_number())
    if fields.sees("-"):
        fields.skip("-")
        return ()
    return fields.take_numbers()


def take_circle(fields):
    """Read what is a circle by its form."""
    house = take_house(fields)
    fields.skip("|")
    people = fields.take_number()
    owners = []
    stretches = []
    while fields.sees(";"):
        fields.skip(";")
        owners.append(fields.take_number())
        low = fields.take_number()
        stretches.append((low, fields.take_number()))
    return (house, people, tuple(owners), tuple(stretches))
