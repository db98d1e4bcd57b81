"""What is lost if a wish is refused or promised, or one drawn by dice."""

from someoneout.boardkinds import rows_by
from someoneout.circles import is_telling
from someoneout.demands import need
from someoneout.endboards import all_rows, told_by
from someoneout.grantrules import worth_by_ranks
from someoneout.healing import PROMISE, can_be_done, is_deed
from someoneout.housechanges import turned_house
from someoneout.houses import size_of
from someoneout.kinds import is_below, lot_by
from someoneout.quotients import reduced
from someoneout.ranks import rank_table


def loss_at(circle, telling, wish, deed):
    """By how much the best worth is above that without the wish, or with it."""
    need(is_telling(circle, telling), "telling")
    need(is_below(len(circle[2]), wish), "wish")
    need(can_be_done(circle[0], wish, deed), "deed")
    return loss_by_ranks(rank_table(circle[0]), telling, wish, deed)


def loss_by_ranks(ranks, telling, wish, deed):
    """The loss by what is known to be a deed that can be done."""
    best = worth_by_ranks(ranks, telling)
    if deed == PROMISE:
        # At this worth it is in a best lot; there it counts as told.
        top = max(telling)
        return best - (worth_by_ranks(ranks, told_anew(telling, wish, top)) - top + telling[wish])
    return best - worth_by_ranks(ranks, told_anew(telling, wish, 0))


def told_anew(telling, wish, worth):
    """The telling with this worth of the wish."""
    return telling[:wish] + (worth,) + telling[wish + 1:]


def worst_loss(circle, wish, deed):
    """The greatest loss at all tellings."""
    need(is_below(len(circle[2]), wish), "wish")
    need(can_be_done(circle[0], wish, deed), "deed")
    # What the wish is worth above the others is lost if it is refused, what it is worth below them if it is promised.
    own, others = (0, 1) if deed == PROMISE else (1, 0)
    telling = tuple([stretch[own if at == wish else others] for at, stretch in enumerate(circle[3])])
    return loss_by_ranks(rank_table(circle[0]), telling, wish, deed)


def need_dice(circle, deed):
    """Refuse what cannot be done to all wishes."""
    wishes = range(len(circle[2]))
    need(is_deed(deed) and all([can_be_done(circle[0], wish, deed) for wish in wishes]), "deed")


def dice_loss(circle, telling, deed):
    """The mean of the loss over all wishes; nought without wishes."""
    need(is_telling(circle, telling), "telling")
    need_dice(circle, deed)
    return reduced(losses_added(rank_table(circle[0]), telling, deed), max(1, len(telling)))


def losses_added(ranks, telling, deed):
    """The losses of all wishes, added up."""
    return sum([loss_by_ranks(ranks, telling, wish, deed) for wish in range(len(telling))])


def worst_dice(circle, deed):
    """The greatest mean loss at all tellings, and the first end telling with it."""
    need_dice(circle, deed)
    ranks = rank_table(circle[0])
    rows = all_rows(circle)
    tellings = [told_by(circle, rows, place) for place in rows_by([len(own) for own in rows])]
    # The losses at a telling are the mean, over its mixture, of those at end tellings.
    losses = [losses_added(ranks, telling, deed) for telling in tellings]
    worst = max(losses)
    return (reduced(worst, max(1, len(circle[2]))), tellings[losses.index(worst)])


def best_dice(house, deed):
    """The least quotient of rank and length of a lot, not (), and any lot that has it."""
    need(size_of(house) > 0, "house")
    need(is_deed(deed), "deed")
    ranks = rank_table(turned_house(house) if deed == PROMISE else house)
    best = lot_by(1)
    rank = ranks[1]
    for number in range(1, len(ranks)):
        lot = lot_by(number)
        if ranks[number] * len(best) < rank * len(lot):
            best = lot
            rank = ranks[number]
    return (reduced(rank, len(best)), best)
