"""What a live shelf is behind some events, and what it is behind one more."""

from mendfew.bookchanges import with_place
from mendfew.bookforms import is_place_of, is_word_of
from mendfew.eventforms import is_event_for
from mendfew.goings import mended_at_once
from mendfew.losses import back_of
from mendfew.rows import total_of

WIDEST = 12


class Moment:
    """A word of a book, of which a lot is lost, behind some events; it never changes."""

    def __init__(self, events, book, word, lost, earlier):
        self.events = events
        self.book = book
        # The whole word: only told back places are mended, and those have its signs.
        self.word = word
        self.lost = lost
        self.back = back_of(book, lost)
        self.earlier = earlier


def first_moment(book, signs):
    """The moment in which the word is kept and nothing happened yet."""
    return Moment((), book, signs, (), None)


def signs_at(moment):
    """The word, with None at lost places."""
    return tuple([None if place in moment.lost else sign for place, sign in enumerate(moment.word)])


def mended_at(moment):
    """The word, with None at lost places that are not told back."""
    return tuple([
        None if place in moment.lost and place not in moment.back else sign
        for place, sign in enumerate(moment.word)
    ])


def marks_at(moment):
    """The set of the names of moments."""
    return tuple(sorted([event[1] for event in moment.events if event[0] == "mark"]))


def state_at(moment, place):
    """Whether the place is there, told back, or lost."""
    if place not in moment.lost:
        return "there"
    return "back" if place in moment.back else "lost"


def sign_text(sign):
    """The sign in decimal; - for one that is lost."""
    return "-" if sign is None else str(sign)


def place_line(moment, place):
    """The place, its sign, and whether it is there, told back, or lost."""
    sign = signs_at(moment)[place]
    return f"{place} {sign_text(sign)} {state_at(moment, place)}"


def lost_with(moment, place):
    """The lot that is lost when this place is, too."""
    return tuple(sorted([place, *moment.lost]))


def lost_without(moment, mended):
    """The lot that is lost when these places are mended."""
    return tuple([place for place in moment.lost if place not in mended])


def reason_against(moment, event, most):
    """The first reason for which the event is refused where there may be so many, None if there is none."""
    if not is_event_for(moment.book[0], event):
        return "shape"
    if len(moment.events) >= most:
        return "full"
    if event[0] == "lose" or event[0] == "mend":
        return reason_by_place(moment, event[0], event[1])
    if event[0] == "going":
        return "none" if len(mended_at_once(moment.book[2], moment.lost)) == 0 else None
    if event[0] == "write":
        return None if is_word_of(moment.book, event[1]) else "word"
    if event[0] == "widen":
        return reason_to_stay(moment, event[1])
    return "twice" if event[1] in marks_at(moment) else None


def reason_by_place(moment, word, place):
    """The first reason for which the place is not lost, or not mended, None if there is none."""
    if not is_place_of(moment.book, place):
        return "place"
    if word == "lose":
        return "gone" if place in moment.lost else None
    if place not in moment.lost:
        return "there"
    return None if place in moment.back else "untold"


def reason_to_stay(moment, numbers):
    """The first reason for which the book is not changed as by with_place, None if there is none."""
    size = moment.book[1]
    if len(numbers) != size:
        return "many"
    if size >= WIDEST:
        return "wide"
    return "lost" if len(moment.lost) > 0 else None


def moment_behind(moment, event):
    """The moment behind this event, which is not refused."""
    book, word, lost = changed_by(moment, event)
    return Moment((*moment.events, event), book, word, lost, moment)


def changed_by(moment, event):
    """The triple of the book, the whole word and the lost lot behind this event."""
    book, word, lost = moment.book, moment.word, moment.lost
    if event[0] == "lose":
        return (book, word, lost_with(moment, event[1]))
    if event[0] == "mend":
        return (book, word, lost_without(moment, (event[1],)))
    if event[0] == "going":
        return (book, word, lost_without(moment, mended_at_once(book[2], lost)))
    if event[0] == "write":
        return (book, event[1], ())
    if event[0] == "widen":
        return (with_place(book, event[1]), (*word, total_of(book[0], event[1], word)), ())
    return (book, word, lost)
