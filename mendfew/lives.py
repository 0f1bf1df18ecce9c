"""Live shelves, which lose, mend and write the signs of a word."""

from mendfew.bookforms import is_place_of
from mendfew.errors import Broken, InvalidEvent, NothingToUndo
from mendfew.losses import back_of
from mendfew.losspapers import telling_sum
from mendfew.moments import (
    first_moment, lost_with, marks_at, mended_at, moment_behind, place_line, reason_against, signs_at)
from mendfew.usable import want, want_book, want_word


class Trial:
    """What is done to a live shelf from now on is undone at its end."""

    def __init__(self, live):
        self._live = live
        self._kept = live._now

    def __enter__(self):
        return self._live

    def __exit__(self, kind, value, trace):
        self._live._now = self._kept


class Live:
    """A shelf that keeps a word, through the events that happen to it."""

    MOST = 40

    def __init__(self, book, signs):
        want_book(book, "book")
        want_word(book, signs, "signs")
        self._begun = ("live", book, signs)
        self._now = first_moment(book, signs)
        # Each operation that was started is finished before the next one can be.
        self._counted = 0

    @property
    def book_now(self):
        """The book."""
        return self._now.book

    @property
    def signs_now(self):
        """The word, with None at lost places."""
        return signs_at(self._now)

    @property
    def lost_now(self):
        """The lot of the lost places."""
        return self._now.lost

    @property
    def back_now(self):
        """The lot of those lost places that are told back."""
        return self._now.back

    @property
    def marks_now(self):
        """The set of the names of moments."""
        return marks_at(self._now)

    def happen(self, event):
        """Applies an event; how many places are then lost, and how many of them are told back."""
        self._counted = self._counted + 1
        self._now = self._behind(self._now, event)
        return (len(self._now.lost), len(self._now.back))

    def lose(self, place):
        """Loses the sign at the place."""
        return self.happen(("lose", place))

    def mend(self, place):
        """Puts the sign back at the place, which is told back."""
        return self.happen(("mend", place))

    def going(self):
        """Mends at once all places that are the only lost one of some sum that the book itself has."""
        return self.happen(("going",))

    def write(self, signs):
        """Writes this word at all places."""
        return self.happen(("write", signs))

    def widen(self, numbers):
        """Puts one more place behind the others, told by them with these numbers."""
        return self.happen(("widen", numbers))

    def mark(self, name):
        """Gives this moment the name."""
        return self.happen(("mark", name))

    def barred(self, event):
        """The reason for which an event is refused, None if there is none."""
        return self._reason(self._now, event)

    def told(self):
        """The book, the word with None at lost places, and which of these are told back."""
        return told_at(self._now)

    def mended(self):
        """The word with None at those lost places that are not told back."""
        return mended_at(self._now)

    def tried(self, event, *events):
        """What is told behind these events; nothing changes."""
        moment = self._now
        for one in (event, *events):
            moment = self._behind(moment, one)
        return told_at(moment)

    def trial(self):
        """For a with: what is done and taken back from now on is undone at the end, but for counts."""
        return Trial(self)

    def undo(self):
        """Takes back the last event, and returns it."""
        self._counted = self._counted + 1
        if self._now.earlier is None:
            raise NothingToUndo(0)
        event = self._now.events[-1]
        self._now = self._now.earlier
        return event

    def do_all(self, event, *events, keep=False):
        """Applies the events in order; how many they are.

        If one is refused, those before it are taken back, unless they are to be kept.
        """
        self._counted = self._counted + 1
        want(isinstance(keep, bool), "keep")
        moment, done = self._now, 0
        for one in (event, *events):
            try:
                moment = self._behind(moment, one)
            except InvalidEvent as why:
                if keep:
                    self._now = moment
                raise Broken(done) from why
            done = done + 1
        self._now = moment
        return done

    def counts(self):
        """How many operations were started, and how many finished."""
        return (self._counted, self._counted)

    def since(self, mark):
        """The events behind the moment of this name."""
        events = self._now.events
        want(isinstance(mark, str) and mark in marks_at(self._now), "mark")
        return events[events.index(("mark", mark)) + 1:]

    def table(self):
        """For each place a line: the place, its sign, and whether it is there, told back, or lost."""
        return [place_line(self._now, place) for place in range(self._now.book[1])]

    def story(self):
        """The beginning, and all events that were not undone."""
        return (self._begun, *self._now.events)

    def _reason(self, moment, event):
        """The reason for which the event is refused at this moment, None if there is none."""
        return reason_against(moment, event, self.MOST)

    def _behind(self, moment, event):
        """The moment behind this event; raises InvalidEvent if it is refused at this moment."""
        reason = self._reason(moment, event)
        if reason is not None:
            raise InvalidEvent(event, reason)
        return moment_behind(moment, event)

    def __getitem__(self, at):
        want(is_place_of(self._now.book, at), "place")
        return None if at in self._now.lost else self._now.word[at]

    def __call__(self, place):
        want(is_place_of(self._now.book, place), "place")
        return telling_sum(self._now.book, self._now.lost, place)

    def __contains__(self, x):
        return is_place_of(self._now.book, x) and x not in self._now.lost

    def __len__(self):
        return len(self._now.events)

    def __iter__(self):
        return iter(self._now.events)

    def __eq__(self, other):
        return isinstance(other, Live) and self._begun == other._begun and self._now.events == other._now.events

    def __iadd__(self, other):
        self.happen(other)
        return self


class Careful(Live):
    """A live shelf that loses no place if then some lost place would not be told back."""

    def __init__(self, book, signs):
        super().__init__(book, signs)

    def _reason(self, moment, event):
        """The reason for which the event is refused at this moment, None if there is none."""
        reason = super()._reason(moment, event)
        if reason is None and event[0] == "lose":
            lost = lost_with(moment, event[1])
            return None if back_of(moment.book, lost) == lost else "risk"
        return reason


def told_at(moment):
    """What a live shelf tells at this moment."""
    return (moment.book, signs_at(moment), moment.back)


def followed(live, events):
    """The live shelf behind these events, which count nothing; raises the first InvalidEvent."""
    for event in events:
        live._now = live._behind(live._now, event)
    return live


def rehearsed(live, event, *events):
    """What the live shelf would tell behind these events; nothing changes but what it counts."""
    want(isinstance(live, Live), "live")
    with live.trial() as held:
        held.do_all(event, *events)
        told = held.told()
    return told
