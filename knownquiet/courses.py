"""Courses: a standing that goes on, event by event."""

from knownquiet.ways import ways_of
from knownquiet.works import sent_by


class Course:
    """The bags of all houses, and the letters on their way, each with the index of the event that sent it."""

    def __init__(self, works, standing):
        bags, ways = standing
        self.works = works
        self.bags = [list(bag) for bag in bags]
        # What is on its way at first was sent by no event.
        self.mail = {(sender, to): [(task, None) for task in tasks] for sender, to, tasks in ways}
        self.left = sum([len(bag) for bag in bags]) + sum([len(way[2]) for way in ways])


def standing_of(course):
    """Tell the standing to which a course has come."""
    bags = tuple([tuple(bag) for bag in course.bags])
    pairs = {pair: tuple([task for task, _ in course.mail[pair]]) for pair in course.mail}
    return (bags, ways_of(pairs))


def wrong_word(course, event):
    """Tell what is wrong with an event that would be next: "idle", "empty", "lie", or None."""
    name, house = event[0], event[1]
    if name == "do":
        return "idle" if len(course.bags[house]) == 0 else None
    if name == "hear":
        return "empty" if len(course.mail.get((event[2], house), ())) == 0 else None
    return "lie" if course.left > 0 else None


def hinders(word):
    """Whether by this word of what is wrong with it an event cannot be done."""
    return word == "idle" or word == "empty"


def go_on(course, index, event):
    """Let an event that can be done be done, and tell the index of the one that sent what it hears, or None."""
    name, house = event[0], event[1]
    if name == "do":
        do_next(course, index, house)
    elif name == "hear":
        task, sent_at = course.mail[(event[2], house)].pop(0)
        course.bags[house].append(task)
        return sent_at
    return None


def do_next(course, index, house):
    """Let a house do the first task that it has, by the event with this index."""
    task = course.bags[house].pop(0)
    letters = sent_by(course.works, house, task)
    for to, sent in letters:
        course.mail.setdefault((house, to), []).append((sent, index))
    course.left += len(letters) - 1
