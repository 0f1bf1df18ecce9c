"""Choices and orders of places."""


def all_places(size):
    """The tuple of all places of a book of this size."""
    return tuple(range(size))


def lots_of(places, many):
    """The list of all tuples of so many of the ascending places, ascending, as Python sorts."""
    lots = [()]
    for _ in range(many):
        lots = [
            (*lot, place) for lot in lots for place in places
            if len(lot) == 0 or place > lot[-1]
        ]
    return lots


def first_meeting(places, many, lots):
    """The first tuple, as Python sorts, of so many of the ascending places that has one of each lot.

    None if no such tuple has.
    """
    if many == 0:
        return () if len(lots) == 0 else None
    for at in range(len(places) - many + 1):
        left = [lot for lot in lots if places[at] not in lot]
        rest = first_meeting(places[at + 1:], many - 1, left)
        if rest is not None:
            return (places[at], *rest)
    return None


def orders_of(places):
    """The list of all tuples that have each of the ascending places once, as Python sorts."""
    orders = [()]
    for _ in places:
        orders = [(*order, place) for order in orders for place in places if place not in order]
    return orders


def other_places(size, lot):
    """The tuple of the places below size that are not in the lot."""
    return tuple([place for place in range(size) if place not in lot])


def classes_by(wide, step, many):
    """In each of so many runs of wide places, the lots of those that follow one another by this step."""
    starts = [at * wide for at in range(many)]
    return tuple([tuple(range(start + rest, start + wide, step)) for start in starts for rest in range(step)])
