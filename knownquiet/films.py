"""Films: records gone through there and back, and pictures of them as rows of signs."""

from knownquiet.accounts import leads
from knownquiet.causes import check_moment
from knownquiet.courses import Course, go_on, standing_of
from knownquiet.errors import NoMoment, NoNumber
from knownquiet.forms import is_below
from knownquiet.records import many_that_can
from knownquiet.works import check_standing, first_standing

MOST_EVERY = 500


class Reel:
    """A record that is gone through, with the standings behind some numbers of events kept."""

    def __init__(self, record, every):
        if not is_below(MOST_EVERY + 1, every) or every == 0:
            raise NoNumber()
        self.record = record
        self.every = every
        self.place = 0
        self.now = first_standing(record.ruled, record.given)
        self.found = {0: self.now}
        self.steps = 0

    def stands(self):
        """Tell behind how many events it stands."""
        return self.place

    def standing(self):
        """Tell the standing there."""
        return self.now

    def seek(self, at):
        """Stand behind so many events."""
        if not is_below(self.many_events() + 1, at):
            raise NoMoment()
        begin, standing = nearest_below(self, at)
        course = Course(self.record.ruled, standing)
        for index in range(begin, at):
            go_on(course, index, self.record.events[index])
            if (index + 1) % self.every == 0:
                self.found[index + 1] = standing_of(course)
        self.place = at
        self.now = standing_of(course)
        self.steps = at - begin

    def kept(self):
        """Tell the numbers of events behind which standings are kept, ascending."""
        return tuple(sorted(self.found))

    def worked(self):
        """Tell how many events were gone through by the last seek."""
        return self.steps

    def copy(self):
        """Another Reel that stands there, and goes on apart."""
        other = Reel(self.record, self.every)
        other.place = self.place
        other.now = self.now
        other.found = dict(self.found)
        other.steps = self.steps
        return other

    def many_events(self):
        """Tell how many events can be gone through."""
        return many_that_can(self.record)


def nearest_below(reel, at):
    """Tell the pair (number, standing) from which a seek goes on: the nearest number that is not above the goal."""
    number = max([there for there in reel.found if there <= at])
    if number < reel.place <= at:
        return (reel.place, reel.now)
    return (number, reel.found[number])


def drawn(works, standing):
    """Tell the picture of a standing."""
    check_standing(works, standing)
    bags, ways = standing
    rows = [bag_row(house, bag) for house, bag in enumerate(bags)]
    rows.extend([f"{sender}>{to}:" + tasks_drawn(tasks) for sender, to, tasks in ways])
    return closed(rows)


def bag_row(house, bag):
    """Tell the row of a house, with the tasks that it has to do."""
    return f"{house}:" + tasks_drawn(bag)


def tasks_drawn(tasks):
    """Tell tasks, a blank ahead of each."""
    return "".join([f" {kind}.{fuel}" for kind, fuel in tasks])


def closed(rows):
    """Tell the text of rows, each closed by a line feed."""
    return "".join([row + "\n" for row in rows])


def drawn_record(record):
    """Tell the picture of a record: for each house a row, with a sign for each event."""
    signs = [event_sign(record, index) for index in range(len(record.events))]
    return by_houses(record, signs)


def by_houses(record, signs):
    """Tell the picture with the signs of the first events, each in the row of the event's house."""
    houses = [event[1] for event in record.events]
    rows = []
    for house in range(record.ruled.many):
        rows.append("".join([sign if there == house else "." for sign, there in zip(signs, houses)]))
    return closed(rows)


def event_sign(record, index):
    """Tell the sign of an event in the picture of its record."""
    many = many_that_can(record)
    if index == many:
        return "x"
    if index > many:
        return "?"
    # Says alone are lies.
    return "!" if index in record.account.lies else record.events[index][0][0]


def drawn_causes(record, at):
    """Tell the picture of what causes an event, and of what it causes."""
    check_moment(record, at)
    return by_houses(record, [cause_sign(record.account, at, index) for index in range(many_that_can(record))])


def cause_sign(account, at, index):
    """Tell the sign of an event in the picture of the causes of another one, or of itself."""
    if index == at:
        return "*"
    if leads(account, index, at):
        return "<"
    return ">" if leads(account, at, index) else "o"
