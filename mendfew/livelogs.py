"""Stories of live shelves."""

from mendfew.eventforms import is_story_like
from mendfew.lives import Live, followed
from mendfew.usable import want


def is_story(thing):
    """Whether any value is a beginning, followed by events for its book by form, possible or not."""
    return is_story_like(thing)


def replayed(story):
    """A new Live behind the events of the story; raises the error of the first one that is refused."""
    want(is_story_like(story), "story")
    _, book, signs = story[0]
    return followed(Live(book, signs), story[1:])
