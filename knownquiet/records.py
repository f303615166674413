"""Records: events that strangers tell, and what of them can have been."""

from knownquiet.accounts import Account, many_done
from knownquiet.courses import Course, go_on, standing_of
from knownquiet.errors import BadRecord, NoMoment
from knownquiet.forms import is_below, is_tuple_of
from knownquiet.states import WATCHERS
from knownquiet.works import check_given, first_standing, is_house

MOST_EVENTS = 2000


class Record:
    """The works that rule it, the tasks given at first, and the events that are told."""

    def __init__(self, works, given, events):
        check_given(works, given)
        if not isinstance(events, tuple) or len(events) > MOST_EVENTS:
            raise BadRecord(-1)
        for index, event in enumerate(events):
            if not is_event(works, event):
                raise BadRecord(index)
        self.ruled = works
        self.given = given
        self.events = events
        self.account = Account(works, given, events)

    def __eq__(self, other):
        if not isinstance(other, Record):
            return False
        return self.ruled == other.ruled and self.given == other.given and self.events == other.events


def is_event(works, thing):
    """Whether a thing has the form of an event."""
    if not isinstance(thing, tuple) or len(thing) < 2 or not isinstance(thing[0], str):
        return False
    name, house, rest = thing[0], thing[1], thing[2:]
    if not is_house(works, house):
        return False
    if name == "do":
        return len(rest) == 0
    if name == "hear":
        return len(rest) == 1 and is_house(works, rest[0])
    return name == "say" and is_tuple_of(1, rest) and rest[0] in WATCHERS


def many_that_can(record):
    """Tell how many events can be done."""
    return many_done(record.account)


def first_wrong(record):
    """Tell the pair (index, word) of the first event that can't be, or None."""
    return record.account.wrong


def standing_at(record, at):
    """Tell the standing behind so many events."""
    if not is_below(many_that_can(record) + 1, at):
        raise NoMoment()
    return standing_behind(record, list(range(at)))


def standing_behind(record, indexes):
    """Tell the standing behind the events with these indexes, in this order, in which they can be done."""
    course = Course(record.ruled, first_standing(record.ruled, record.given))
    for index in indexes:
        go_on(course, index, record.events[index])
    return standing_of(course)


def quiet_from(record):
    """Tell the least number of events behind which all is quiet, or None if it never is."""
    return record.account.quiet


def lies_in(record):
    """Tell the indexes of the says while all was not quiet, ascending."""
    return tuple(record.account.lies)
