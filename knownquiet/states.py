"""States of houses: what each knows of its tasks, and of the three watchers, and what becomes of it by its deeds."""

from knownquiet.errors import NoShare, NoSign, NoTask, NothingThere, NoWord
from knownquiet.forms import is_below, is_flag, is_number, is_tuple_of, with_item
from knownquiet.shares import WHOLE, added, halved, is_share, is_some_share
from knownquiet.works import are_tasks, check_house, check_task, is_house, is_task, many_tasks, sent_by

PICTURES = 1000
MOST_TASKS = 500
ANSWER = ("answer",)
WATCHERS = ("tree", "ring", "coin")
# The places of what a state holds.
BAG = 0
PARENT = 1
DEFICIT = 2
SENT = 3
HEARD = 4
BLACK = 5
SIGN = 6
SHARE = 7
SAID = 8


def begun(works, house):
    """Tell the state of a house at the beginning."""
    check_house(works, house)
    if house == 0:
        return ((), None, 0, 0, 0, False, (0, 0, 0), WHOLE, True)
    return ((), None, 0, 0, 0, False, None, (), False)


def is_word(works, thing):
    """Whether a thing has the form of a word."""
    if not isinstance(thing, tuple) or len(thing) == 0 or not isinstance(thing[0], str):
        return False
    name, rest = thing[0], thing[1:]
    if name == "task":
        return len(rest) == 3 and is_task(works, rest[:2]) and is_some_share(rest[2])
    if name == "answer":
        return len(rest) == 0
    if name == "sign":
        return is_sign(rest)
    if name == "share":
        return len(rest) == 1 and is_some_share(rest[0])
    return name == "mark" and len(rest) == 1 and is_below(PICTURES, rest[0])


def are_words(works, thing):
    """Whether a thing is a tuple of words, perhaps of none."""
    return isinstance(thing, tuple) and all([is_word(works, item) for item in thing])


def is_sign(thing):
    """Whether a thing is the triple (sent, heard, black) of a sign."""
    return is_tuple_of(3, thing) and is_number(thing[0]) and is_number(thing[1]) and is_below(2, thing[2])


def is_parent(works, house, thing):
    """Whether a thing may be the parent of a house: that of house 0 is itself, if it has one."""
    if thing is None:
        return True
    return is_house(works, thing) and (house > 0 or thing == 0)


def is_state(works, house, thing):
    """Whether a thing has the form of the state of a house."""
    check_house(works, house)
    if not is_tuple_of(9, thing):
        return False
    bag, parent, deficit, sent, told, black, sign, share, said = thing
    if not are_tasks(works, bag) or not is_parent(works, house, parent):
        return False
    if not all([is_number(item) for item in (deficit, sent, told)]):
        return False
    if not is_flag(black) or not is_flag(said) or (said and house > 0):
        return False
    return (sign is None or is_sign(sign)) and is_share(share)


def gifted(works, state, task):
    """Tell the pair (state, out) behind a task that house 0 is given."""
    check_gift(works, task)
    bag, parent, deficit, sent, told, black, sign, share, _ = state
    if parent is None:
        parent = 0
    return ((bag + (task,), parent, deficit, sent, told, black, sign, share, False), ())


def check_gift(works, task):
    """Raise NoTask for what is no task, or brings more tasks than house 0 may be given."""
    check_task(works, task)
    if many_tasks(works, task) > MOST_TASKS:
        raise NoTask()


def done(works, house, state):
    """Tell the pair (state, out) behind the first task that a house does."""
    check_house(works, house)
    bag, parent, deficit, sent, told, black, sign, share, said = state
    if len(bag) == 0:
        raise NothingThere()
    letters = sent_by(works, house, bag[0])
    many = len(letters)
    if many > 0 and len(share) == 0:
        raise NoShare()
    out = []
    for to, task in letters:
        share = halved(share)
        out.append((to, ("task",) + task + (share,)))
    behind = (bag[1:], parent, deficit + many, sent + many, told, black, sign, share, said)
    return ended(house, behind, tuple(out))


def ended(house, state, out):
    """Tell the pair (state, out) behind what a house does when it may have come to its end; out is sent ahead."""
    bag, parent, deficit, sent, told, black, sign, share, said = state
    if len(bag) > 0:
        return (state, out)
    if deficit == 0 and parent is not None:
        if house > 0:
            out = out + ((parent, ANSWER),)
        parent = None
    if house > 0 and len(share) > 0:
        out = out + ((0, ("share", share)),)
        share = ()
    return ((bag, parent, deficit, sent, told, black, sign, share, said), out)


def heard(works, house, state, sender, word):
    """Tell the pair (state, out) behind a word that a house hears from a sender."""
    check_house(works, house)
    check_house(works, sender)
    if not is_word(works, word):
        raise NoWord()
    return heard_word(house, state, sender, word)


def heard_word(house, state, sender, word):
    """Tell what heard tells of what is known to have the form of a word."""
    name = word[0]
    if name == "task":
        return heard_task(house, state, sender, word)
    if name == "answer":
        return heard_answer(house, state)
    if name == "sign":
        return (with_sign(state, word[1:]), ())
    if name == "share":
        if house > 0:
            raise NoWord()
        return (with_share(state, word[1]), ())
    return (state, ())


def heard_task(house, state, sender, word):
    """Tell the pair (state, out) behind a task that a house hears."""
    bag, parent, deficit, sent, told, _, sign, share, said = with_share(state, word[3])
    if parent is None:
        parent = sender if house > 0 else 0
        out = ()
    else:
        out = ((sender, ANSWER),)
    return ((bag + (word[1:3],), parent, deficit, sent, told + 1, True, sign, share, said), out)


def heard_answer(house, state):
    """Tell the pair (state, out) behind an answer that a house hears."""
    bag, parent, deficit, sent, told, black, sign, share, said = state
    if deficit == 0:
        raise NoWord()
    return ended(house, (bag, parent, deficit - 1, sent, told, black, sign, share, said), ())


def with_sign(state, sign):
    """Tell the state of one that holds a sign now, and held none."""
    if state[SIGN] is not None:
        raise NoWord()
    return with_item(state, SIGN, sign)


def with_share(state, share):
    """Tell the state of one to whose share another one is added."""
    both = added(state[SHARE], share)
    if both is None:
        raise NoWord()
    return with_item(state, SHARE, both)


def can_pass(state):
    """Whether a house with this state can pass the sign."""
    return state[SIGN] is not None and len(state[BAG]) == 0 and not state[SAID]


def passed(works, house, state):
    """Tell the pair (state, out) behind the sign that a house passes, or that house 0 looks at."""
    check_house(works, house)
    if not can_pass(state):
        raise NoSign()
    bag, parent, deficit, sent, told, black, sign, share, _ = state
    all_sent, all_told = sign[0] + sent, sign[1] + told
    stained = black or sign[2] == 1
    if house == 0 and not stained and all_sent == all_told:
        return ((bag, parent, deficit, sent, told, black, sign, share, True), ())
    behind = (bag, parent, deficit, sent, told, False, None, share, False)
    if house == 0:
        return (behind, ((works.many - 1, ("sign", 0, 0, 0)),))
    return (behind, ((house - 1, ("sign", all_sent, all_told, 1 if stained else 0)),))


def says(works, state):
    """Tell of a state of house 0 whether the tree, the ring, the coin says that all is quiet."""
    return (state[PARENT] is None, state[SAID], len(state[BAG]) == 0 and state[SHARE] == WHOLE)
