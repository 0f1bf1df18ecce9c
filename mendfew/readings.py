"""Which places to read, so that lost ones are told at the least cost."""

from mendfew.losses import back_of
from mendfew.lots import other_places
from mendfew.rows import bound_rows, cleared_at
from mendfew.usable import want_book, want_costs, want_lost, want_place


def reads_for(book, place, lost, costs=None):
    """A lot of the least cost, without a lost place, that tells the place; None if there is none."""
    want_read(book, place, lost, costs)
    found = cheapest(book, (place,), lost, costs)
    return None if found is None else found[1]


def least_cost(book, place, lost, costs=None):
    """The cost of such a lot; None if there is none."""
    want_read(book, place, lost, costs)
    found = cheapest(book, (place,), lost, costs)
    return None if found is None else found[0]


def reads_for_all(book, lost, costs=None):
    """A lot of the least cost, without a lost place, that tells all places that are told back."""
    want_reads(book, lost, costs)
    return cheapest(book, back_of(book, lost), lost, costs)[1]


def cost_for_all(book, lost, costs=None):
    """The cost of such a lot."""
    want_reads(book, lost, costs)
    return cheapest(book, back_of(book, lost), lost, costs)[0]


def want_read(book, place, lost, costs):
    """Raises NotUsable for the first of them that is not as stated."""
    want_book(book, "book")
    want_place(book, place)
    want_lost(book, lost)
    want_costs(book, costs)


def want_reads(book, lost, costs):
    """Raises NotUsable for the first of them that is not as stated."""
    want_book(book, "book")
    want_lost(book, lost)
    want_costs(book, costs)


def cheapest(book, asked, lost, costs):
    """The least cost of a lot without a lost place that tells the places asked for, and such a lot."""
    prime, size, sums = book
    words = bound_rows(prime, size, sums)
    prices = (1,) * size if costs is None else costs
    return cheapest_of(prime, words, asked, other_places(size, lost), prices)


def cheapest_of(prime, words, asked, places, prices):
    """The same, of lots of these places, for all sums of these words; None if there is no such lot."""
    if not any([word[place] for word in words for place in asked]):
        return (0, ())
    best = None
    for at, place in enumerate(places):
        # A place at which the words are 0 tells nothing more, and no place costs less than 0.
        if any([word[place] for word in words]):
            left = cleared_at(prime, words, place)
            found = cheapest_of(prime, left, asked, places[at + 1:], prices)
            if found is not None:
                cost = found[0] + prices[place]
                if best is None or cost < best[0]:
                    best = (cost, (place, *found[1]))
    return best
