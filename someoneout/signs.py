"""Sums over all lots, with signs that go by what a lot has or lacks."""


def signed_total(values):
    """The values of all lots, by their numbers, added up; the sign changes for each thing of the lot."""
    while len(values) > 1:
        half = len(values) // 2
        values = [values[at] - values[half + at] for at in range(half)]
    return values[0]


def mixed_total(values):
    """The values of all lots, by their numbers, added up; the sign changes for each thing not in the lot."""
    while len(values) > 1:
        half = len(values) // 2
        values = [values[half + at] - values[at] for at in range(half)]
    return values[0]


def moved(owners, here, there, number):
    """The row here, but that of there for all things whose owner is in the lot with this number."""
    return tuple([there[at] if number >> owner & 1 else here[at] for at, owner in enumerate(owners)])
