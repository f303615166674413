"""Causes: which events of a record cause which, the cuts that could have been, and other orders."""

from knownquiet.accounts import leads
from knownquiet.errors import NoCut, NoMoment, NoOrder, TooMany
from knownquiet.forms import is_below, is_tuple_of, with_item
from knownquiet.records import Record, many_that_can, standing_behind

MOST_CUTS = 20000


def causes(record):
    """Tell for each event that can be done the indexes of those that cause it directly."""
    return tuple(record.account.causes)


def vectors(record):
    """Tell for each event that can be done, by houses, how many events are this one, or cause it."""
    return tuple(record.account.vectors)


def check_moment(record, at):
    """Raise NoMoment for what is not the index of an event that can be done."""
    if not is_below(many_that_can(record), at):
        raise NoMoment()


def is_ahead(record, one, other):
    """Whether one event causes another one, perhaps through others."""
    check_moment(record, one)
    check_moment(record, other)
    return leads(record.account, one, other)


def is_cut(record, thing):
    """Whether a thing is a cut that could have been."""
    places = record.account.places
    if not is_tuple_of(len(places), thing):
        return False
    if not all([is_below(len(there) + 1, many) for there, many in zip(places, thing)]):
        return False
    last = [there[many - 1] for there, many in zip(places, thing) if many > 0]
    return all([is_within(record.account.vectors[index], thing) for index in last])


def is_within(vector, cut):
    """Whether an event with this vector, and all that causes it, is within a cut."""
    return all([number <= many for number, many in zip(vector, cut)])


def standing_of_cut(record, cut):
    """Tell the standing behind the events within a cut."""
    if not is_cut(record, cut):
        raise NoCut()
    found = [index for index, vector in enumerate(record.account.vectors) if is_within(vector, cut)]
    return standing_behind(record, found)


def least_quiet(record):
    """Tell the least cut that could have been in which all is quiet, or None if there is none."""
    account = record.account
    if account.quiet is None:
        return None
    # Whatever is done or heard has to be within: as long as some of it is left, something is to be done, or on its way.
    needed = [vector for vector, event in zip(account.vectors, record.events) if event[0] != "say"]
    return tuple([max([vector[house] for vector in needed], default=0) for house in range(record.ruled.many)])


def many_cuts(record):
    """Tell how many cuts could have been."""
    many = 0
    # Cuts by how many events are within: each comes of one with one event less.
    cuts = [(0,) * record.ruled.many]
    while len(cuts) > 0:
        many += len(cuts)
        if many > MOST_CUTS:
            raise TooMany(MOST_CUTS)
        cuts = greater_cuts(record.account, cuts)
    return many


def greater_cuts(account, cuts):
    """Tell the cuts that could have been with one event more than some of these."""
    found = {}
    for cut in cuts:
        for house, there in enumerate(account.places):
            if cut[house] < len(there):
                greater = with_item(cut, house, cut[house] + 1)
                if is_within(account.vectors[there[cut[house]]], greater):
                    found[greater] = True
    return list(found)


def is_order(record, thing):
    """Whether a thing is a list or tuple of all events that can be done, none ahead of one that causes it."""
    many = many_that_can(record)
    if not isinstance(thing, (list, tuple)) or len(thing) != many:
        return False
    if not all([is_below(many, index) for index in thing]):
        return False
    ahead = {}
    for index in thing:
        if index in ahead or not all([cause in ahead for cause in record.account.causes[index]]):
            return False
        ahead[index] = True
    return True


def rearranged(record, order):
    """Tell the Record of the events that can be done in another order."""
    if not is_order(record, order):
        raise NoOrder()
    return Record(record.ruled, record.given, tuple([record.events[index] for index in order]))
