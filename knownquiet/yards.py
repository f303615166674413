"""Yards: folk that wait for one another, and probes by which some learn that they wait for ever."""

from knownquiet.errors import IsFree, NoFolk, NoLetter, NoLot, NoNumber, NotAsked, NotFree
from knownquiet.forms import is_below, is_lot_below

MOST_FOLK = 8
ASK = ("ask",)
GRANT = ("grant",)


class Yard:
    """Folk, each free or waiting for all of a lot of others, and the letters between them."""

    def __init__(self, many):
        if not is_below(MOST_FOLK + 1, many) or many == 0:
            raise NoNumber()
        self.many = many
        self.wanted = [() for _ in range(many)]
        self.owed = [() for _ in range(many)]
        self.mail = {}
        self.probes = [0 for _ in range(many)]
        self.passed_on = [{} for _ in range(many)]
        self.stuck = [False for _ in range(many)]

    def ask(self, who, lot):
        """Let a free one ask each of a lot of others, and wait for them."""
        check_free(self, who)
        if not is_lot_below(self.many, lot) or len(lot) == 0 or who in lot:
            raise NoLot()
        self.wanted[who] = lot
        write_each(self, who, ASK)

    def grant(self, who, other):
        """Let a free one grant what another one asked it."""
        check_folk(self, who)
        check_folk(self, other)
        check_free(self, who)
        if other not in self.owed[who]:
            raise NotAsked()
        self.owed[who] = without(self.owed[who], other)
        write(self, who, other, GRANT)

    def bring(self, who, other):
        """Let the first letter on its way from one to another be heard, and tell it."""
        mail = self.letters(who, other)
        if len(mail) == 0:
            raise NoLetter()
        self.mail[(who, other)] = mail[1:]
        hear(self, other, who, mail[0])
        return mail[0]

    def probe(self, who):
        """Let one that waits send a probe of its own, and tell its number."""
        check_folk(self, who)
        if is_free(self, who):
            raise IsFree()
        number = self.probes[who]
        self.probes[who] = number + 1
        write_each(self, who, ("probe", who, number))
        return number

    def waits(self, who):
        """Tell for whom one waits."""
        check_folk(self, who)
        return self.wanted[who]

    def asked_by(self, who):
        """Tell whose asks one heard, and did not grant."""
        check_folk(self, who)
        return self.owed[who]

    def letters(self, who, other):
        """Tell the letters on their way from one to another."""
        check_folk(self, who)
        check_folk(self, other)
        return self.mail.get((who, other), ())

    def known_stuck(self):
        """Tell to whom it is known that they wait for ever."""
        return tuple([who for who, known in enumerate(self.stuck) if known])

    def copy(self):
        """Another Yard like this one, that goes on apart."""
        other = Yard(self.many)
        other.wanted = list(self.wanted)
        other.owed = list(self.owed)
        other.mail = {pair: self.mail[pair] for pair in self.mail}
        other.probes = list(self.probes)
        other.passed_on = [dict(numbers) for numbers in self.passed_on]
        other.stuck = list(self.stuck)
        return other


def check_folk(yard, who):
    """Raise NoFolk for what is none of the folk of a yard."""
    if not is_below(yard.many, who):
        raise NoFolk()


def check_free(yard, who):
    """Raise NoFolk for what is none of the folk, NotFree for one that waits."""
    check_folk(yard, who)
    if not is_free(yard, who):
        raise NotFree()


def is_free(yard, who):
    """Whether one waits for nobody."""
    return len(yard.wanted[who]) == 0


def without(lot, who):
    """Tell a lot without one that was in it."""
    return tuple([other for other in lot if other != who])


def write(yard, who, other, word):
    """Put a letter behind those on their way from one to another."""
    yard.mail[(who, other)] = yard.mail.get((who, other), ()) + (word,)


def write_each(yard, who, word):
    """Put a letter on its way to each for whom one waits."""
    for other in yard.wanted[who]:
        write(yard, who, other, word)


def hear(yard, who, sender, word):
    """Let one hear a letter."""
    if word == ASK:
        yard.owed[who] = tuple(sorted(yard.owed[who] + (sender,)))
    elif word == GRANT:
        yard.wanted[who] = without(yard.wanted[who], sender)
    elif sender in yard.owed[who] and not is_free(yard, who):
        hear_probe(yard, who, word)


def hear_probe(yard, who, word):
    """Let one that waits hear the probe of one that waits for it: its own, or one to pass on."""
    _, of, number = word
    if of == who:
        yard.stuck[who] = True
    elif yard.passed_on[who].get(of, -1) < number:
        yard.passed_on[who][of] = number
        write_each(yard, who, word)


def ring_of(yard, who):
    """Tell the least of the shortest rings that begin with one, in which each waits for the next, or None."""
    check_folk(yard, who)
    steps = steps_to(yard, who)
    ring = (who,)
    ahead = nearest(yard, steps, who)
    while ahead is not None and ahead != who:
        ring = ring + (ahead,)
        ahead = nearest(yard, steps, ahead)
    return ring if ahead == who else None


def really_waits(yard, who):
    """Tell for whom one waits whose grant is not on its way."""
    return [other for other in yard.wanted[who] if GRANT not in yard.letters(other, who)]


def steps_to(yard, goal):
    """Tell in a dict, for each from whom waiting leads to one, by how many steps it does."""
    steps = {goal: 0}
    for many in range(yard.many):
        for who in range(yard.many):
            near = [other for other in really_waits(yard, who) if steps.get(other, -1) == many]
            if len(near) > 0 and who not in steps:
                steps[who] = many + 1
    return steps


def nearest(yard, steps, who):
    """Tell the least of those for whom one waits that are nearest to the goal, or None if none leads there."""
    found = [(steps[other], other) for other in really_waits(yard, who) if other in steps]
    return min(found)[1] if len(found) > 0 else None


def on_rings(yard):
    """Tell for whom there is a ring."""
    return tuple([who for who in range(yard.many) if ring_of(yard, who) is not None])
