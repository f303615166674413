"""Shares of the coin: lots of numbers p, each of which stands for 1 / 2 ** p of it."""

from knownquiet.errors import NoShare
from knownquiet.forms import is_lot

WHOLE = (0,)


def is_share(thing):
    """Whether a thing is a lot of numbers, 0 alone or not in it."""
    return is_lot(thing) and (len(thing) < 2 or thing[0] > 0)


def is_some_share(thing):
    """Whether a thing is a share, and not that of nothing."""
    return is_share(thing) and len(thing) > 0


def check_share(share):
    """Raise NoShare for what is no share."""
    if not is_share(share):
        raise NoShare()


def sum_of(one, other):
    """Tell the share that both come to."""
    check_share(one)
    check_share(other)
    share = added(one, other)
    if share is None:
        raise NoShare()
    return share


def added(one, other):
    """Tell the share that two shares come to, or None if that is more than the whole."""
    both = merged((one, other))
    return both if is_share(both) else None


def merged(shares):
    """Tell the rising integers that shares come to: what is more than the whole shows by 0 beside others, or below."""
    there = {}
    for share in shares:
        for number in share:
            place = number
            # Two of the same are one of the next greater, so numbers may be large: no power is ever taken of them.
            while place in there:
                del there[place]
                place -= 1
            there[place] = True
    return tuple(sorted(there))


def are_whole(shares):
    """Whether shares come to the whole."""
    return merged(shares) == WHOLE


def half(share):
    """Tell half of a share."""
    if not is_some_share(share):
        raise NoShare()
    return halved(share)


def halved(share):
    """Tell half of what is known to be a share, and not that of nothing."""
    return tuple([number + 1 for number in share])
