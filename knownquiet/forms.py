"""The plain forms of which all others are made: numbers, pairs, what rises."""


def is_number(thing):
    """Whether a thing is an integer from 0 on; a flag is none."""
    return isinstance(thing, int) and not isinstance(thing, bool) and thing >= 0


def is_below(bound, thing):
    """Whether a thing is a number below a bound."""
    return is_number(thing) and thing < bound


def is_flag(thing):
    """Whether a thing is True or False."""
    return isinstance(thing, bool)


def is_tuple_of(many, thing):
    """Whether a thing is a tuple of so many items."""
    return isinstance(thing, tuple) and len(thing) == many


def rises(items):
    """Whether each item is greater than the one ahead of it."""
    return all([one < other for one, other in zip(items, items[1:])])


def is_lot(thing):
    """Whether a thing is an ascending tuple of numbers, perhaps of none."""
    return isinstance(thing, tuple) and all([is_number(item) for item in thing]) and rises(thing)


def is_lot_below(bound, thing):
    """Whether a thing is a lot of numbers below a bound."""
    return is_lot(thing) and (len(thing) == 0 or thing[-1] < bound)


def with_item(items, at, item):
    """Tell the tuple with another item at a place."""
    return items[:at] + (item,) + items[at + 1:]
