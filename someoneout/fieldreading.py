"""Going through the fields of a line."""

from someoneout.errors import InvalidText
from someoneout.figures import is_figures, number_by


class Fields:
    """The fields of a line, and how many of them have been read."""

    def __init__(self, line, fields):
        self.line = line
        self.fields = fields
        self.read = 0

    def ended(self):
        """Whether all fields have been read."""
        return self.read == len(self.fields)

    def sees(self, word):
        """Whether the next field is this one."""
        return not self.ended() and self.fields[self.read] == word

    def sees_number(self):
        """Whether the next field is a number in figures."""
        return not self.ended() and is_figures(self.fields[self.read])

    def refuse_unless(self, holds):
        """Refuse the next field; behind the last one that is a line that ends too soon."""
        if not holds:
            raise InvalidText(self.line, self.read)

    def skip(self, word):
        """Read this field."""
        self.refuse_unless(self.sees(word))
        self.read += 1

    def take_word(self, words):
        """Read one of these words."""
        self.refuse_unless(not self.ended() and self.fields[self.read] in words)
        self.read += 1
        return self.fields[self.read - 1]

    def take_number(self):
        """Read one number."""
        self.refuse_unless(self.sees_number())
        self.read += 1
        return number_by(self.fields[self.read - 1])

    def take_numbers(self):
        """Read all numbers from here on, at least one."""
        numbers = [self.take_number()]
        while self.sees_number():
            numbers.append(self.take_number())
        return tuple(numbers)
