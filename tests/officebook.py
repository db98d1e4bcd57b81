"""An office's book as a test keeps it, and events drawn for it."""

from tests.oracles import (free_lots, granted_by_words, handed_by_words, is_full_by_words, is_free_by_words, kept_ranks,
                           own_by_words, pieces_by_words, size_by_words, table_by_words, within_by_words,
                           worth_by_words)
from tests.support import random_plain
from tests.test_healing import changed_by_words


def circle_by_takers(people, house, takers):
    lot = tuple(wish for wish, taker in enumerate(takers) if taker is not None)
    kept = ("table", len(lot), tuple(kept_ranks(table_by_words(house)[2], lot)))
    return (kept, people, tuple(takers[wish][0] for wish in lot), tuple(takers[wish][1:3] for wish in lot))


def settled_by_words(people, house, takers, way):
    """The circle that is settled, its telling, its wishes' numbers, and its full pieces by these."""
    circle = circle_by_takers(people, house, takers)
    wishes = [wish for wish, taker in enumerate(takers) if taker is not None]
    if isinstance(way, tuple):
        circle = changed_by_words(circle, wishes.index(way[1]), way[0])
        wishes.remove(way[1])
    full = [tuple(wishes[at] for at in piece) for piece in pieces_by_words(circle[0]) if is_full_by_words(circle, piece)]
    return circle, tuple(takers[wish][3] for wish in wishes), wishes, full


def triple_by_words(people, house, takers, way):
    """Lot, payments and till, if the way is not refused."""
    circle, telling, wishes, _ = settled_by_words(people, house, takers, way)
    free = free_lots(circle[0])
    lot = granted_by_words(free, telling)
    if way == "others":
        payments = []
        for person in range(people):
            others = set(range(len(telling))) - set(own_by_words(circle, person))
            payments.append(within_by_words(free, telling, others) - worth_by_words(telling, set(lot) & others))
        payments = tuple(payments)
    else:
        payments = handed_by_words(circle, telling)
    named = {wishes[at] for at in lot} | ({way[1]} if way[0] == "promise" else set())
    return tuple(sorted(named)), payments, sum(payments)


def reasons_by_words(people, rounds, settled, event):
    """All reasons that apply to what is an event, in no sequence; those that rest on others' absence left out then."""
    found = set()
    if event[0] in ("person", "house", "day"):
        return found
    number = event[1]
    if not number < len(rounds):
        return {"round"}
    if number in settled:
        found.add("settled")
    house, takers = rounds[number]
    way = event[2] if event[0] == "settle" else None
    wish = event[2] if way is None else way[1] if isinstance(way, tuple) else None
    if wish is not None and not wish < size_by_words(house):
        found.add("wish")
    if event[0] == "take" and not event[3] < people:
        found.add("person")
    if "wish" in found:
        return found
    taken = wish is not None and takers[wish] is not None
    if event[0] == "take" and taken:
        found.add("taken")
    if event[0] in ("drop", "narrow", "tell") and not taken or isinstance(way, tuple) and not taken:
        found.add("untaken")
    if event[0] == "narrow" and taken:
        old = range(takers[wish][1], takers[wish][2] + 1)
        told = takers[wish][3]
        if event[3] not in old or event[4] not in old or told is not None and not event[3] <= told <= event[4]:
            found.add("stretch")
    if event[0] == "tell" and taken and not takers[wish][1] <= event[3] <= takers[wish][2]:
        found.add("worth")
    if event[0] == "settle":
        if any(taker is not None and taker[3] is None for taker in takers):
            found.add("untold")
        if isinstance(way, tuple) and way[0] == "promise" and not is_free_by_words(house, (wish,)):
            found.add("barred")
        if way != "others" and not found & {"untaken", "barred"}:
            if settled_by_words(people, house, [taker and taker[:3] + (0,) for taker in takers], way)[3]:
                found.add("full")
    return found


SEQUENCE = ("shape", "round", "settled", "wish", "person", "taken", "untaken", "stretch", "worth", "untold", "barred",
            "full")


class Book:
    """Persons, rounds, accounts, till, log, each in a list of its own."""

    def __init__(self, people):
        self.people, self.accounts, self.till = people, [0] * people, 0
        self.rounds, self.granted, self.log, self.given = [], {}, [], None

    def reason(self, event):
        found = reasons_by_words(self.people, self.rounds, self.granted, event)
        return ([word for word in SEQUENCE if word in found] + [None])[0]

    def do(self, event):
        word, given = event[0], None
        if word == "person":
            self.people += 1
            self.accounts.append(0)
        elif word == "house":
            self.rounds.append((event[1], [None] * size_by_words(event[1])))
        elif word == "settle":
            house, takers = self.rounds[event[1]]
            given = triple_by_words(self.people, house, takers, event[2])
            self.granted[event[1]] = given[0]
            self.accounts = [account - pay for account, pay in zip(self.accounts, given[1])]
            self.till += given[2]
        elif word != "day":
            takers = self.rounds[event[1]][1]
            old = takers[event[2]]
            takers[event[2]] = {"take": event[3:] + (None,), "drop": None, "narrow": (old or (0,))[:1] + event[3:]
                                + (old or (0,))[3:], "tell": (old or (0,))[:3] + event[3:]}[word]
        self.log.append(event)
        return given

    def rounds_told(self):
        return tuple((house, tuple(takers)) for house, takers in self.rounds)

    def state(self):
        return (self.people, self.rounds_told(), tuple(self.accounts), self.till, tuple(self.log))


def office_state(office):
    return (office.people_now(), office.rounds_now(), tuple(office.account(person) for person in range(office.people_now())),
            office.till_now(), office.log())


def drawn_house(dice):
    """A house of one to six wishes, more often of two or three."""
    size = dice.choice((1, 2, 2, 3, 3, 4, 6))
    kind = dice.random()
    if kind < 0.5:
        return ("limits", size, ((tuple(range(size)), dice.randrange(1, size + 1)),))
    if kind < 0.8 or size == 1:
        return random_plain(dice, size)
    if kind < 0.9:
        return ("beside", (random_plain(dice, 1), random_plain(dice, size - 1)))
    return table_by_words(random_plain(dice, size))


def drawn_event(dice, book, wild=0.15):
    """An event, mostly one that can be done; wild says how often its numbers are drawn at large."""
    many = len(book.rounds)
    word = dice.choice(("person",) * (book.people < 5 and dice.random() < 0.4) + ("house", "day") + ("take",) * 6 + ("tell",) * 6
                       + ("narrow",) * 2 + ("drop",) + ("settle",) * 8)
    if word in ("person", "day"):
        return (word,)
    if word == "house" or many == 0:
        return ("house", drawn_house(dice))
    unsettled = [number for number in range(many) if number not in book.granted]
    if not unsettled and dice.random() < 0.5:
        return ("house", drawn_house(dice))
    number = dice.choice(unsettled) if unsettled and dice.random() > wild else dice.randrange(many + 1)
    takers = book.rounds[number][1] if number < many else [None]
    wish = dice.randrange(len(takers) + (dice.random() < wild))
    old = takers[wish] if wish < len(takers) else None
    low, high = sorted((dice.randrange(9), dice.randrange(9)))
    if word == "take":
        return (word, number, wish, dice.randrange(book.people + (dice.random() < wild)), low, high)
    if word == "drop":
        return (word, number, wish)
    if word == "settle":
        empty = [at for at, taker in enumerate(takers) if taker is None]
        if empty and dice.random() < 0.7:
            return ("take", number, empty[0], dice.randrange(book.people), low, high)
        untold = [at for at, taker in enumerate(takers) if taker is not None and taker[3] is None]
        if untold and dice.random() > wild:
            return ("tell", number, untold[0], dice.randrange(takers[untold[0]][1], takers[untold[0]][2] + 1))
        ways = ("handed", "handed", "others", "others", ("refuse", wish), ("promise", wish), ("promise", wish))
        return (word, number, dice.choice(ways))
    if old is not None and dice.random() > wild:
        low, high = sorted((dice.randrange(old[1], old[2] + 1), dice.randrange(old[1], old[2] + 1)))
        if old[3] is not None and dice.random() > wild:
            low, high = min(low, old[3]), max(high, old[3])
    return (word, number, wish, low, high) if word == "narrow" else (word, number, wish, dice.choice((low, high)))
