"""The two ways in which what does not hold is refused."""

from someoneout.errors import InvalidPaper, NotUsable


def need(holds, word):
    """Refuse the parameter called word, unless it is as stated."""
    if not holds:
        raise NotUsable(word, -1)


def demand(holds, word, at):
    """Refuse a paper at the entry (word, at) of its checker's list."""
    if not holds:
        raise InvalidPaper(word, at)
