"""A desk: a live shelf that is led by rows of words."""

from mendfew.errors import InvalidRow, InvalidText
from mendfew.eventforms import is_name
from mendfew.linewords import MOST_DIGITS, is_number_word
from mendfew.livereadings import read_event, read_story
from mendfew.lives import Live
from mendfew.livetexts import event_line
from mendfew.moments import sign_text
from mendfew.usable import want


class Desk:
    """A live shelf that answers rows by strings."""

    def __init__(self, book, signs):
        self._live = Live(book, signs)
        # Each call of say that was started is finished before the next one can be.
        self._counted = 0

    def say(self, row):
        """What the row is answered by."""
        self._counted = self._counted + 1
        want(isinstance(row, str), "row")
        begun = live_in(row)
        if begun is not None:
            self._live = begun
            return "ok"
        return answer_to(self._live, row)

    def counts(self):
        """How many calls of say were started, and how many finished."""
        return (self._counted, self._counted)


def live_in(row):
    """A new live shelf, if the row is a story without events; None else."""
    try:
        story = read_story(row.split("\n"))
    except InvalidText:
        return None
    if len(story) > 1:
        return None
    _, book, signs = story[0]
    return Live(book, signs)


def event_in(live, text):
    """The event that the text writes, None if it writes none."""
    try:
        return read_event(live.book_now, text)
    except InvalidText:
        return None


def things_text(things, between):
    """The strings, with this one between; - if there are none."""
    return between.join(things) if len(things) > 0 else "-"


def lot_answer(lot):
    """The numbers, with single spaces between; - if there are none."""
    return things_text([str(place) for place in lot], " ")


def signs_answer(signs):
    """The signs, with single spaces between; - for each that is None."""
    return things_text([sign_text(sign) for sign in signs], " ")


def events_answer(live, events):
    """The lines of the events; - if there are none."""
    return things_text([event_line(live.book_now, event) for event in events], " / ")


def undo_told(live):
    """The line of the last event, which is taken back."""
    event = live.undo()
    return event_line(live.book_now, event)


def signs_told(live):
    """The signs of all places."""
    return signs_answer(live.signs_now)


def lost_told(live):
    """The lost places."""
    return lot_answer(live.lost_now)


def back_told(live):
    """The lost places that are told back."""
    return lot_answer(live.back_now)


def marks_told(live):
    """The names of moments."""
    return things_text(list(live.marks_now), " ")


def mended_told(live):
    """The signs of all places, those that are told back too."""
    return signs_answer(live.mended())


def story_told(live):
    """The lines of all events."""
    return events_answer(live, live.story()[1:])


def table_told(live):
    """A line for each place."""
    return things_text(live.table(), " / ")


def sum_told(live, word):
    """The sum by which the place that the word writes is told; - if there is none."""
    # So great a number is no place, and need not be made.
    want(len(word) <= MOST_DIGITS, "place")
    numbers = live(int(word))
    return "-" if numbers is None else lot_answer(numbers)


ANSWERS = {
    "undo": undo_told,
    "signs": signs_told,
    "lost": lost_told,
    "back": back_told,
    "marks": marks_told,
    "mended": mended_told,
    "story": story_told,
    "table": table_told,
}


def answer_to(live, row):
    """What the live shelf answers to the row; raises InvalidRow if it is none."""
    event = event_in(live, row)
    if event is not None:
        return lot_answer(live.happen(event))
    if row in ANSWERS:
        answer = ANSWERS[row]
        return answer(live)
    first, _, rest = row.partition(" ")
    if first == "bars":
        event = event_in(live, rest)
        if event is not None:
            reason = live.barred(event)
            return "-" if reason is None else reason
    if first == "sum" and is_number_word(rest):
        return sum_told(live, rest)
    if first == "since" and is_name(rest):
        return events_answer(live, live.since(rest))
    raise InvalidRow(row)
