"""Records by chance, and an account of them of its own, by the standings of the works."""

from knownquiet.errors import NothingThere
from knownquiet.works import Works, done_by, first_standing, heard_by, is_quiet

ONE = Works(1, (((0, 0), (0, 0)),))
WORKS = Works(2, (((1, 0),),))
THREE = Works(3, (((1, 1), (0, 2), (1, 0)), ((2, 2),), ()))
BUSY = Works(4, (((1, 0), (3, 1)), ((0, 0), (2, 1))))
SIX = Works(6, (((1, 1), (5, 1)), ((2, 0), (0, 1), (3, 0))))
EACH = (ONE, WORKS, THREE, BUSY, SIX)
WATCHERS = ("tree", "ring", "coin")


def some_given(works, chance):
    """Tasks that bring not too many."""
    kinds = range(len(works.rules))
    return tuple((chance.choice(kinds), chance.randint(0, 3)) for _ in range(chance.randint(0, 3)))


def can_be_done(works, standing):
    """The dos and hears that can be done at a standing."""
    bags, ways = standing
    return [("do", house) for house in range(works.many) if bags[house]] + [("hear", to, sender) for sender, to, _ in ways]


def any_event(works, chance):
    """An event that may well not be one that can be done."""
    house, other = chance.randrange(works.many), chance.randrange(works.many)
    return chance.choice([("do", house), ("hear", house, other), ("say", house, chance.choice(WATCHERS))])


def some_events(works, given, chance, many, wrong):
    """So many events, of which about one of so many may be any; 0 for none."""
    standing = first_standing(works, given)
    found = []
    while len(found) < many:
        can = can_be_done(works, standing)
        if chance.randrange(6) == 0 or not can:
            event = ("say", chance.randrange(works.many), chance.choice(WATCHERS))
        else:
            event = chance.choice(can)
        if wrong and chance.randrange(wrong) == 0:
            event = any_event(works, chance)
        found.append(event)
        try:
            standing = behind(works, standing, event)
        except NothingThere:
            pass
    return tuple(found)


def behind(works, standing, event):
    """The standing behind an event."""
    if event[0] == "do":
        return done_by(works, standing, event[1])
    if event[0] == "hear":
        return heard_by(works, standing, event[1], event[2])
    return standing


class Told:
    """What is to be told of a record."""

    def __init__(self, works, given, events):
        self.works, self.events = works, events
        self.standings = [first_standing(works, given)]
        self.wrong, self.lies = None, []
        self.sent, self.taken = {}, {}
        self.direct = []
        for index, event in enumerate(events):
            standing = self.standings[-1]
            word = None
            if event[0] == "say" and not is_quiet(works, standing):
                word = "lie"
                self.lies.append(index)
            try:
                self.standings.append(behind(works, standing, event))
            except NothingThere:
                word = "idle" if event[0] == "do" else "empty"
            if word and self.wrong is None:
                self.wrong = (index, word)
            if word in ("idle", "empty"):
                break
            self.direct.append(self.causes_of(index, standing))
        self.many = len(self.direct)
        quiet = [at for at, standing in enumerate(self.standings) if is_quiet(works, standing)]
        self.quiet = quiet[0] if quiet else None
        self.all = self.closed()

    def causes_of(self, index, standing):
        event = self.events[index]
        causes = [at for at in range(index) if self.events[at][1] == event[1]][-1:]
        if event[0] == "do":
            after = {way[:2]: len(way[2]) for way in self.standings[-1][1]}
            before = {way[:2]: len(way[2]) for way in standing[1]}
            for pair in after:
                if pair[0] == event[1]:
                    self.sent.setdefault(pair, []).extend([index] * (after[pair] - before.get(pair, 0)))
        elif event[0] == "hear":
            pair = (event[2], event[1])
            number = self.taken.get(pair, 0)
            self.taken[pair] = number + 1
            causes.append(self.sent[pair][number])
        return tuple(sorted(set(causes)))

    def closed(self):
        """For each event the set of all that cause it, through whichever others."""
        found = []
        for causes in self.direct:
            found.append(set(causes).union(*[found[cause] for cause in causes]))
        return found

    def vector(self, index):
        within = self.all[index] | {index}
        return tuple(len([at for at in within if self.events[at][1] == house]) for house in range(self.works.many))

    def of_house(self, house):
        """The indexes of the events of a house that can be done."""
        return [at for at in range(self.many) if self.events[at][1] == house]

    def within(self, cut):
        """The indexes of the events within a cut."""
        return {at for house, many in enumerate(cut) for at in self.of_house(house)[:many]}

    def could_be(self, cut):
        within = self.within(cut)
        return all(self.all[at] <= within for at in within)

    def some_order(self, chance):
        """An order of all events that keeps what causes what, by chance."""
        order = []
        while len(order) < self.many:
            ready = [at for at in range(self.many) if at not in order and self.all[at] <= set(order)]
            order.append(chance.choice(ready))
        return order
