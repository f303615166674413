"""Accounts: what became of events, one behind the other, and what of them caused what."""

from knownquiet.courses import Course, go_on, hinders, wrong_word
from knownquiet.works import first_standing


class Account:
    """Of events: what is wrong, when all is quiet, and for those that can be done what causes them."""

    def __init__(self, works, given, events):
        course = Course(works, first_standing(works, given))
        self.events = events
        self.wrong = None
        self.quiet = 0 if course.left == 0 else None
        self.lies = []
        self.causes = []
        self.vectors = []
        # The indexes of the events of each house.
        self.places = [[] for _ in range(works.many)]
        for index, event in enumerate(events):
            word = wrong_word(course, event)
            note_wrong(self, index, word)
            if hinders(word):
                break
            note_causes(self, index, go_on(course, index, event))
            if course.left == 0 and self.quiet is None:
                self.quiet = index + 1


def note_wrong(account, index, word):
    """Let an account note what is wrong with an event, perhaps nothing."""
    if word is not None and account.wrong is None:
        account.wrong = (index, word)
    if word == "lie":
        account.lies.append(index)


def note_causes(account, index, sent_at):
    """Let an account note an event that was done, and the event that sent what it heard, if there is one."""
    house = account.events[index][1]
    places = account.places[house]
    found = places[-1:]
    if sent_at is not None and sent_at not in found:
        found = sorted(found + [sent_at])
    vector = [0 for _ in account.places]
    for cause in found:
        # The events of a house stand in a row: so how many of each house tells which.
        vector = [max(mine, other) for mine, other in zip(vector, account.vectors[cause])]
    vector[house] = len(places) + 1
    account.causes.append(tuple(found))
    account.vectors.append(tuple(vector))
    places.append(index)


def many_done(account):
    """Tell how many of the events can be done."""
    return len(account.causes)


def leads(account, one, other):
    """Whether of two unlike events that can be done the one causes the other, perhaps through others."""
    house = account.events[one][1]
    return one != other and account.vectors[one][house] <= account.vectors[other][house]
