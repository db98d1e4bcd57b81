"""Numbers in figures, of any length."""

# Python refuses to write or read numbers of some thousand figures at once.
MANY = 18
CHUNK = 10 ** 18


def is_figures(text):
    """Whether the string is a number in figures without leading zeros."""
    return text.isdigit() and (text == "0" or not text.startswith("0"))


def figures_of(number):
    """The figures of the number."""
    parts = []
    while number >= CHUNK:
        number, last = divmod(number, CHUNK)
        parts.append(str(last).zfill(MANY))
    parts.append(str(number))
    return "".join(parts[::-1])


def number_by(figures):
    """The number that has these figures."""
    number = 0
    for start in range(0, len(figures), MANY):
        part = figures[start:start + MANY]
        number = number * int("1" + "0" * len(part)) + int(part)
    return number
