"""The pieces of a house: wishes put together with all that they are tied to."""

from someoneout.demands import need
from someoneout.errors import Apart
from someoneout.grantrules import filled
from someoneout.houses import size_of
from someoneout.kinds import is_below
from someoneout.ringpapers import without_wish
from someoneout.rings import ring_with


def pieces_of(house):
    """All pieces, by their least wish."""
    return pieces_within(house, tuple(range(size_of(house))))


def pieces_within(house, lot):
    """The pieces of the house kept to the lot, with the numbers of the house."""
    base = filled(house, (), lot)
    pieces = [(wish,) for wish in lot]
    # The rings with one base tie all that any rings tie, over other wishes or not.
    for wish in lot:
        if wish not in base:
            pieces = put_together(pieces, ring_with(house, base, wish))
    return tuple(sorted(pieces))


def put_together(pieces, ring):
    """The pieces, those that have a wish of the ring made one."""
    apart = []
    together = []
    for piece in pieces:
        if any([wish in ring for wish in piece]):
            together.extend(list(piece))
        else:
            apart.append(piece)
    return apart + [tuple(sorted(together))]


def is_one_piece(house):
    """Whether there is just one piece."""
    return len(pieces_of(house)) == 1


def piece_at(house, wish):
    """The piece that has the wish."""
    size = size_of(house)
    need(is_below(size, wish), "wish")
    return piece_within(house, tuple(range(size)), wish)


def piece_within(house, lot, wish):
    """The piece that has this wish of the lot, if the house is kept to the lot."""
    return [piece for piece in pieces_within(house, lot) if wish in piece][0]


def ring_through(house, one, other):
    """Any ring that has both; Apart if they are not in one piece."""
    size = size_of(house)
    need(is_below(size, one), "one")
    need(is_below(size, other) and other != one, "other")
    piece = piece_at(house, one)
    if other not in piece:
        raise Apart(piece)
    ring = piece
    # A least lot in which both are in one piece is a ring: one through both lies within it.
    for wish in piece:
        rest = without_wish(ring, wish)
        if wish != one and wish != other and other in piece_within(house, rest, one):
            ring = rest
    return ring
