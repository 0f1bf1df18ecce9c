"""Choices and orders of places."""


def all_places(size):
    """The tuple of all places of a book of this size."""
    return tuple(range(size))


def lots_of(places, many):
    """The list of all tuples of so many of the ascending places, ascending, as Python sorts."""
    lots = [()]
    for _ in range(many):
        lots = [
            (*lot, place) for lot in lots for place in places
            if len(lot) == 0 or place > lot[-1]
        ]
    return lots


def orders_of(places):
    """The list of all tuples that have each of the ascending places once, as Python sorts."""
    orders = [()]
    for _ in places:
        orders = [(*order, place) for order in orders for place in places if place not in order]
    return orders


def other_places(size, lot):
    """The tuple of the places below size that are not in the lot."""
    return tuple([place for place in range(size) if place not in lot])
