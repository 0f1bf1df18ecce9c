"""Goings: sums that mend at once what is their only lost place, until none mends anything."""

from mendfew.lots import all_places, lots_of
from mendfew.usable import want_book, want_lost, want_sums


def goings(book, sums, lost):
    """For each going that mends something, in order, the set of the places that it mends."""
    want_goings(book, sums, lost)
    return goings_by(sums, lost)


def left_by(book, sums, lost):
    """The set of the lost places that are left in the end."""
    want_goings(book, sums, lost)
    return left_in_end(sums, lost)


def is_mended_by(book, sums, lost):
    """Whether no lost place is left in the end."""
    want_goings(book, sums, lost)
    return len(left_in_end(sums, lost)) == 0


def stuck_lots(book, sums):
    """The set of the least nonempty lots of which, if they are lost, goings mend no place."""
    want_book(book, "book")
    want_sums(book, sums)
    places = all_places(book[1])
    found = []
    for many in range(1, len(places) + 1):
        for lot in lots_of(places, many):
            if len(mended_at_once(sums, lot)) == 0 and not any([is_within(other, lot) for other in found]):
                found.append(lot)
    return tuple(sorted(found))


def want_goings(book, sums, lost):
    """Raises NotUsable for the first of them that is not as stated."""
    want_book(book, "book")
    want_sums(book, sums)
    want_lost(book, lost)


def goings_by(sums, lost):
    """The tuple of the sets of the places that the goings mend."""
    told = []
    left = lost
    while True:
        mended = mended_at_once(sums, left)
        if len(mended) == 0:
            return tuple(told)
        told.append(mended)
        left = tuple([place for place in left if place not in mended])


def left_in_end(sums, lost):
    """The lost places that no going mends."""
    mended = [place for going in goings_by(sums, lost) for place in going]
    return tuple([place for place in lost if place not in mended])


def mended_at_once(sums, lost):
    """The set of the places that are the only lost one of some of these sums."""
    gone = [[place for place in lost if numbers[place] != 0] for numbers in sums]
    return tuple(sorted({places[0] for places in gone if len(places) == 1}))


def is_within(lot, other):
    """Whether all places of the lot are in the other one."""
    return all([place in other for place in lot])
