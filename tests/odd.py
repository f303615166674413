"""Odd objects: what a function that judges, or names an error, may be passed."""

import sys

from knownquiet.desks import Desk
from knownquiet.disks import Disk
from knownquiet.errors import BadWorks, NoHouse
from knownquiet.films import Reel
from knownquiet.links import Incoming, Outgoing, outgoing_of
from knownquiet.nets import Net
from knownquiet.posts import Post
from knownquiet.records import Record
from knownquiet.savings import SavedHouse
from knownquiet.works import Works, is_task
from knownquiet.yards import Yard


def nested(deep, inner, wrap):
    """An inner object, wrapped so many times."""
    for _ in range(deep):
        inner = wrap(inner)
    return inner


def odd_things():
    """Objects of many kinds, none of them a number, a task, a standing, or a state of a link."""
    small = Works(2, (((1, 0),),))
    plain = [
        None, True, False, -1, -(10 ** 19), "", "a", "ab", "abc", "many", "a\nb", b"", b"a", b"ab", bytearray(b"ab"),
        memoryview(b"ab"), Ellipsis, NotImplemented, object(), slice(0, 2), range(0), range(2), range(3),
        iter([]), iter((1, 2)), (number for number in (1, 2)), zip([1], [2]), map(len, []), enumerate("ab"),
        reversed([1, 2]), len, print, "ab".split, [].append, str, int, tuple, bool, object, ValueError("no"),
        ValueError, lambda: 1, sys, property(), staticmethod(len), sys._getframe(),
    ]
    boxes = [
        [], {}, {0: 1}, {0: 1, 1: 2}, {"a": (), (0, 1): {}}, {}.keys(), {0: 1, 1: 2}.items(), {0: 1, 1: 2}.values(),
        [0], [0, 1], [(), ()], [0, 1, 2], [[(0, 1)], []], (None,), (None, None), (True, False), (-1, 0), (0, -1),
        ("a", "b"), ((0, 0),), ([], ()), ({}, ()), (b"", b""), (range(2), range(2)), ((), (), ()), (0, 1, 2, 3),
        (is_task, is_task), (len, len), (object(), object()), ((None, None), (None, None)), (0, {}), (0, None),
        (0, "ab"), (0, range(2)), ("0", ()), (None, ()), (True, ()), (-1, ()), ((), ((),)),
        nested(40, (), lambda inner: (inner,)), nested(40, (), lambda inner: (inner, inner[:0])),
        nested(40, [], lambda inner: [inner]), nested(40, {}, lambda inner: {"a": inner}),
        nested(39, 0, lambda inner: (0, [inner])), (None,) * 19999, [0] * 19999,
        (nested(39, 0, lambda inner: (inner,)), nested(39, 0, lambda inner: (inner,))),
    ]
    own = [
        small, Works, is_task, outgoing_of, Outgoing(), Incoming(), Outgoing, Outgoing().put, NoHouse(), NoHouse,
        BadWorks({"a": [1]}), Post(small, 0), Post, (Post(small, 1), ()), (small, small), [small], {"works": small},
        (Outgoing(), Incoming()), Yard(2), Yard, (Yard(1), ()), Yard(3).ask, Record(small, (), ()), Record, Disk().write,
        SavedHouse(small, 1, Disk()), SavedHouse, Net(small), Net, Reel(Record(small, (), ()), 1), Desk(), Desk().tell,
        (Record(small, (), ()),), [Disk()], (Disk(), ()), {0: Net(small)},
    ]
    return plain + boxes + own


def odd_numbers():
    """Objects that are no numbers, those that nearly are among them."""
    return odd_things() + [(), (0,), (0, 0), (0, 1), "0", b"0", [0]]
