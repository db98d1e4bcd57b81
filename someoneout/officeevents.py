"""Events of an office, and logs of them."""

from someoneout.healing import is_deed
from someoneout.housechecker import is_house, wish_count
from someoneout.kinds import is_number, is_tuple_of

# How many numbers stand behind the word.
NUMBERS = {"take": 5, "drop": 2, "narrow": 4, "tell": 3}
# Their last two numbers are a stretch.
WITH_STRETCH = ("take", "narrow")
ALONE = ("person", "day")
WHOLE_WAYS = ("handed", "others")
MOST_WISHES = 6


def is_event(thing):
    """Whether any value is an event."""
    if not isinstance(thing, tuple) or len(thing) == 0 or not isinstance(thing[0], str):
        return False
    word = thing[0]
    if word in ALONE:
        return len(thing) == 1
    if word == "house":
        return len(thing) == 2 and is_round_house(thing[1])
    if word == "settle":
        return len(thing) == 3 and is_number(thing[1]) and is_way(thing[2])
    return word in NUMBERS and are_numbers_of(word, thing[1:])


def are_numbers_of(word, numbers):
    """Whether the values are the numbers that stand behind the word."""
    if len(numbers) != NUMBERS[word] or not all([is_number(number) for number in numbers]):
        return False
    return word not in WITH_STRETCH or numbers[-2] <= numbers[-1]


def is_round_house(thing):
    """Whether any value is a house of one to six wishes."""
    return is_house(thing) and 1 <= wish_count(thing) <= MOST_WISHES


def is_way(thing):
    """Whether any value is a way to settle a round."""
    if thing in WHOLE_WAYS:
        return True
    return is_tuple_of(2, thing) and is_deed(thing[0]) and is_number(thing[1])


def is_log(thing):
    """Whether any value is a tuple of events."""
    return isinstance(thing, tuple) and all([is_event(event) for event in thing])
