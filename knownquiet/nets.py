"""Nets: houses led through faults: letters late, lost, doubled, spoilt, and disks that are cut."""

from knownquiet.disks import Disk
from knownquiet.errors import BadDeeds, NoCut, NoDeed, NoNumber
from knownquiet.forms import is_below, with_item
from knownquiet.glass import quiet_glass, tasks_in
from knownquiet.rows import is_row, unsealed
from knownquiet.savings import SavedHouse
from knownquiet.states import BAG, can_pass, says
from knownquiet.ways import ways_of
from knownquiet.works import check_house, is_house, is_task, many_of_all

MOST_LEFT = 1000
MOST_TRIPS = 1000
ALL_SAY = (True, True, True)


class Net:
    """A SavedHouse for each number, over a disk of its own, and the letters on their way."""

    def __init__(self, works):
        self.works = works
        self.disks = [Disk() for _ in range(works.many)]
        self.houses = [SavedHouse(works, number, disk) for number, disk in enumerate(self.disks)]
        self.mail = []

    def house(self, number):
        """Tell a house."""
        check_house(self.works, number)
        return self.houses[number]

    def disk(self, number):
        """Tell a copy of the disk of a house."""
        check_house(self.works, number)
        return self.disks[number].copy()

    def bag(self):
        """Tell the pairs (to, row) of the letters on their way."""
        return list(self.mail)

    def glass(self):
        """Tell the glass of the houses' states, and of the words in their links that are not yet taken."""
        pairs = {}
        for house in self.houses:
            for to in self.houses:
                pairs[(house.number, to.number)] = words_between(house, to)
        return (tuple([house.state() for house in self.houses]), ways_of(pairs))

    def deed(self, thing):
        """Do a deed, and tell what it told."""
        if not isinstance(thing, tuple) or len(thing) == 0 or not isinstance(thing[0], str):
            raise NoDeed()
        if len(thing) != PARTS.get(thing[0], 0):
            raise NoDeed()
        action = DEEDS[thing[0]]
        return action(self, thing[1:])


def words_between(house, to):
    """Tell the words that wait in the link of a house to a house, and are not yet taken there."""
    taken = to.ins[house.number].taken()
    return tuple([word for number, word in house.outs[to.number].waiting() if number >= taken])


def check_deed(fits):
    """Raise NoDeed unless a deed fits."""
    if not fits:
        raise NoDeed()


def give(net, parts):
    """Let house 0 be given a task, if not too many are still to be done then."""
    task = parts[0]
    check_deed(is_task(net.works, task))
    check_deed(many_of_all(net.works, tasks_in(net.glass()) + [task]) <= MOST_LEFT)
    return net.houses[0].deed(("give", task))


def do_task(net, parts):
    """Let a house do a task."""
    check_deed(is_house(net.works, parts[0]))
    return net.houses[parts[0]].deed(("do",))


def pass_sign(net, parts):
    """Let a house pass the sign."""
    check_deed(is_house(net.works, parts[0]))
    return net.houses[parts[0]].deed(("pass",))


def begin_picture(net, parts):
    """Let a house begin a picture."""
    check_deed(is_house(net.works, parts[0]))
    return net.houses[parts[0]].deed(("picture", parts[1]))


def keep_past(net, parts):
    """Let a house keep its past."""
    check_deed(is_house(net.works, parts[0]))
    return net.houses[parts[0]].keep()


def post_letter(net, parts):
    """Put the letter of a house to a house into the bag."""
    sender, to = parts
    check_deed(is_house(net.works, sender) and is_house(net.works, to))
    net.mail.append((to, net.houses[sender].letter(to)))


def bring(net, parts):
    """Take a row out of the bag, and let its house hear it."""
    check_deed(is_below(len(net.mail), parts[0]))
    to, row = net.mail.pop(parts[0])
    return net.houses[to].deed(("hear", row))


def lose(net, parts):
    """Take a row out of the bag."""
    check_deed(is_below(len(net.mail), parts[0]))
    net.mail.pop(parts[0])


def double(net, parts):
    """Put a row of the bag into it once more."""
    check_deed(is_below(len(net.mail), parts[0]))
    net.mail.append(net.mail[parts[0]])


def spoil(net, parts):
    """Put another byte at a place of a row of the bag, by which it is sealed of nothing, or as it was."""
    number, at, byte = parts
    check_deed(is_below(len(net.mail), number))
    to, row = net.mail[number]
    check_deed(is_below(len(row), at) and is_below(256, byte))
    spoilt = with_item(row, at, byte)
    check_deed(spoilt == row or len(unsealed(spoilt)) == 0)
    net.mail[number] = (to, spoilt)


def send_row(net, parts):
    """Put a row that is sealed of nothing into the bag."""
    to, row = parts
    check_deed(is_house(net.works, to) and is_row(row) and len(unsealed(row)) == 0)
    net.mail.append((to, row))


def cut_disk(net, parts):
    """Let the disk of a house be cut, and make the house anew of it."""
    number, kept = parts
    check_deed(is_house(net.works, number))
    disk = net.disks[number]
    try:
        disk.cut(kept)
    except NoCut:
        raise NoDeed()
    net.houses[number] = SavedHouse(net.works, number, disk)


# By the name of a deed of how many parts it is, its name too.
PARTS = {
    "give": 2, "do": 2, "pass": 2, "picture": 3, "keep": 2, "post": 3, "bring": 2, "lose": 2, "double": 2, "spoil": 4,
    "send": 3, "cut": 3,
}
DEEDS = {
    "give": give, "do": do_task, "pass": pass_sign, "picture": begin_picture, "keep": keep_past, "post": post_letter,
    "bring": bring, "lose": lose, "double": double, "spoil": spoil, "send": send_row, "cut": cut_disk,
}


def led_by(net, deeds):
    """Do deeds, one behind the other, and tell what they told."""
    if not isinstance(deeds, (list, tuple)):
        raise BadDeeds(-1)
    told = []
    for index, thing in enumerate(deeds):
        try:
            told.append(net.deed(thing))
        except NoDeed:
            raise BadDeeds(index)
    return told


def round_trip(net):
    """Let each house pass the sign, and do a task, then let all letters be heard; tell how many tasks were done."""
    many = 0
    for house in net.houses:
        if can_pass(house.state()):
            house.deed(("pass",))
        if len(house.state()[BAG]) > 0:
            house.deed(("do",))
            many += 1
    for house in net.houses:
        for other in net.houses:
            exchange(house, other)
    return many


def exchange(house, other):
    """Let two houses hear each other, as long as words of the one wait for the other."""
    while len(house.outs[other.number].waiting()) > 0:
        other.deed(("hear", house.letter(other.number)))
        house.deed(("hear", other.letter(house.number)))


def settle(net, most):
    """Let round trips be until no task is left and all three say quiet, or so many, and tell how many there were."""
    if not is_below(MOST_TRIPS + 1, most):
        raise NoNumber()
    many = 0
    while many < most and not all_say(net):
        round_trip(net)
        many += 1
    return many


def all_say(net):
    """Whether no task is left, and all three watchers say so."""
    glass = net.glass()
    return quiet_glass(net.works, glass) and says(net.works, glass[0][0]) == ALL_SAY
