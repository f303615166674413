"""Ways: what is on its way between houses, as ascending triples (from, to, items), items a tuple that is not empty."""

from knownquiet.forms import is_below, is_tuple_of, rises


def are_full_ways(many, thing):
    """Whether a thing is an ascending tuple of ways between so many houses, none of them for the same as another."""
    if not isinstance(thing, tuple) or not all([is_full_way(many, way) for way in thing]):
        return False
    return rises([way[:2] for way in thing])


def is_full_way(many, thing):
    """Whether a thing is a triple of two houses and a tuple of what is on its way, which is not empty."""
    if not is_tuple_of(3, thing):
        return False
    sender, to, items = thing
    return is_below(many, sender) and is_below(many, to) and isinstance(items, tuple) and len(items) > 0


def by_pairs(ways):
    """Tell what is on its way by the pairs of houses."""
    return {(sender, to): items for sender, to, items in ways}


def ways_of(pairs):
    """Tell the ascending ways of what by_pairs tells, without those that have become empty."""
    full = [pair for pair in sorted(pairs) if len(pairs[pair]) > 0]
    return tuple([pair + (pairs[pair],) for pair in full])


def send(pairs, sender, to, item):
    """Put an item behind what is on its way from a house to a house."""
    pairs[(sender, to)] = pairs.get((sender, to), ()) + (item,)
