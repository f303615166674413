"""Links: two ends between which each thing that is put is taken once, and in order."""

from knownquiet.errors import NoNumber, NoState
from knownquiet.forms import is_below, is_number, is_tuple_of, rises

NUMBERS = 2 ** 32
HELD_AHEAD = 1000


def is_thing(thing):
    """Whether a thing is a tuple of integers, flags, strings, None and such tuples."""
    if not isinstance(thing, tuple):
        return False
    # A list of what is left to look at: things that came back from states may be nested deeper than calls may be.
    left = [thing]
    while len(left) > 0:
        items = left.pop()
        for item in items:
            if isinstance(item, tuple):
                left.append(item)
            elif item is not None and not isinstance(item, (int, str)):
                return False
    return True


class Outgoing:
    """The end of a link at which things are put."""

    def __init__(self):
        self.let_go = 0
        self.things = []

    def put(self, thing):
        """Put a thing behind the others, and tell its number."""
        self.things.append(thing)
        return self.many_put() - 1

    def known(self, number):
        """Let go of the things of lesser numbers, and tell how many these are."""
        if not is_below(self.many_put() + 1, number):
            raise NoNumber()
        many = max(0, number - self.let_go)
        self.things = self.things[many:]
        self.let_go += many
        return many

    def waiting(self):
        """Tell the pairs (number, thing) of those that are not known to be taken."""
        return list(enumerate(self.things, start=self.let_go))

    def many_put(self):
        """Tell how many things were put."""
        return self.let_go + len(self.things)

    def state(self):
        """Tell how many are known to be taken, and the things that wait."""
        return (self.let_go, tuple(self.things))

    def copy(self):
        """Another end in this state, that goes on apart."""
        return outgoing_with(self.let_go, self.things)


def outgoing_with(let_go, things):
    """An Outgoing that has let go of so many, and at which these things wait."""
    end = Outgoing()
    end.let_go = let_go
    end.things = list(things)
    return end


def outgoing_of(state):
    """The Outgoing with this state."""
    if not is_outgoing_state(state):
        raise NoState()
    return outgoing_with(state[0], state[1])


def is_outgoing_state(thing):
    """Whether a thing is a pair of a number and a tuple of things."""
    if not is_tuple_of(2, thing):
        return False
    let_go, things = thing
    return is_below(NUMBERS, let_go) and isinstance(things, tuple) and all([is_thing(item) for item in things])


class Incoming:
    """The end of a link at which things are heard, and taken."""

    def __init__(self):
        self.due = 0
        self.early = {}

    def take(self, number, thing):
        """Hear a thing with a number, and tell the things that are taken now."""
        if not is_below(NUMBERS, number):
            raise NoNumber()
        if self.due <= number < self.due + HELD_AHEAD and number not in self.early:
            self.early[number] = thing
        things = []
        while self.due in self.early:
            things.append(self.early.pop(self.due))
            self.due += 1
        return things

    def taken(self):
        """Tell how many things are taken."""
        return self.due

    def held(self):
        """Tell the numbers of the things that are held, ascending."""
        return tuple(sorted(self.early))

    def state(self):
        """Tell how many are taken, and the pairs (number, thing) of those held."""
        return (self.due, tuple([(number, self.early[number]) for number in sorted(self.early)]))

    def copy(self):
        """Another end in this state, that goes on apart."""
        return incoming_with(self.due, self.early)


def incoming_with(due, early):
    """An Incoming that has taken so many, and holds the things of a dict by their numbers."""
    end = Incoming()
    end.due = due
    end.early = dict(early)
    return end


def incoming_of(state):
    """The Incoming with this state."""
    if not is_incoming_state(state):
        raise NoState()
    return incoming_with(state[0], {number: thing for number, thing in state[1]})


def is_incoming_state(thing):
    """Whether a thing is a pair of a number and a tuple of pairs of a number that can be held and a thing."""
    if not is_tuple_of(2, thing):
        return False
    taken, held = thing
    if not is_below(NUMBERS, taken) or not isinstance(held, tuple):
        return False
    if not all([is_held(taken, pair) for pair in held]):
        return False
    return rises([pair[0] for pair in held])


def is_held(taken, thing):
    """Whether a thing is a pair of a number above taken that can be held, and a thing."""
    if not is_tuple_of(2, thing):
        return False
    number, item = thing
    return is_number(number) and taken < number < taken + HELD_AHEAD and is_thing(item)
