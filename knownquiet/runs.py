"""Runs: records that grow event by event."""

from knownquiet.courses import Course, go_on, hinders, standing_of, wrong_word
from knownquiet.errors import NoEvent
from knownquiet.records import MOST_EVENTS, Record, is_event
from knownquiet.works import first_standing


class Run:
    """The works that rule it, the tasks given at first, the events put, and what has come of them."""

    def __init__(self, works, given):
        self.course = Course(works, first_standing(works, given))
        self.works = works
        self.given = given
        self.lived = []


def put_event(run, event):
    """Put an event behind the others, if it can be done, and tell how it was."""
    if not is_event(run.works, event):
        raise NoEvent()
    word = wrong_word(run.course, event)
    if hinders(word):
        return word
    if len(run.lived) == MOST_EVENTS:
        return "full"
    go_on(run.course, len(run.lived), event)
    run.lived.append(event)
    return "ok" if word is None else word


def record_in(run):
    """Tell the Record to which a run has come."""
    return Record(run.works, run.given, tuple(run.lived))


def standing_in(run):
    """Tell the standing to which a run has come."""
    return standing_of(run.course)
