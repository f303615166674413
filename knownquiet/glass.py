"""Glasses: what stands at a moment, seen from outside: the states of all houses, and the words on their way."""

from knownquiet.errors import Broken, NoGlass, NoMove, NoParts, NoShare, NoWord, TooMany
from knownquiet.forms import is_tuple_of, with_item
from knownquiet.pictures import is_closed_part
from knownquiet.shares import are_whole
from knownquiet.states import (
    ANSWER, BAG, DEFICIT, HEARD, PARENT, SAID, SENT, SHARE, SIGN, WATCHERS, are_words, begun, can_pass, done, gifted,
    heard_word, is_state, passed, says,
)
from knownquiet.ways import are_full_ways, by_pairs, send, ways_of
from knownquiet.works import MOST_DONE, is_house, many_of_all


def is_glass(works, thing):
    """Whether a thing is a pair of the states of all houses and the ways on which words are."""
    return is_tuple_of(2, thing) and are_states(works, thing[0]) and are_word_ways(works, thing[1])


def are_states(works, thing):
    """Whether a thing is a tuple with a state of each house."""
    return is_tuple_of(works.many, thing) and all([is_state(works, house, item) for house, item in enumerate(thing)])


def are_word_ways(works, thing):
    """Whether a thing is an ascending tuple of the ways on which words are."""
    return are_full_ways(works.many, thing) and all([are_words(works, way[2]) for way in thing])


def check_glass(works, glass):
    """Raise NoGlass for what is no glass."""
    if not is_glass(works, glass):
        raise NoGlass()


def first_glass(works):
    """Tell the glass at the beginning."""
    return (tuple([begun(works, house) for house in range(works.many)]), ())


def words_of(glass):
    """Tell the list of the triples (from, to, word) of the words on their way."""
    return [(sender, to, word) for sender, to, words in glass[1] for word in words]


def quiet_glass(works, glass):
    """Whether no house has a task, and none is on its way."""
    check_glass(works, glass)
    return len(tasks_in(glass)) == 0


def tasks_in(glass):
    """Tell the list of the tasks that houses have, and of those on their way."""
    there = [task for state in glass[0] for task in state[BAG]]
    return there + [word[1:3] for _, _, word in words_of(glass) if word[0] == "task"]


def broken(works, glass):
    """Tell the words of those sums that do not hold."""
    check_glass(works, glass)
    states, letters = glass[0], words_of(glass)
    sums = (
        ("counts", counts_hold(states, letters)),
        ("shares", shares_hold(states, letters)),
        ("deficits", deficits_hold(states, letters)),
        ("tree", tree_holds(states)),
        ("sign", sign_holds(states, letters)),
    )
    return tuple([word for word, holds in sums if not holds])


def counts_hold(states, letters):
    """Whether sent of all comes to heard of all, and the tasks on their way."""
    sent = sum([state[SENT] for state in states])
    told = sum([state[HEARD] for state in states])
    return sent == told + len([word for _, _, word in letters if word[0] == "task"])


def shares_hold(states, letters):
    """Whether all shares come to the whole, and just house 0 and those with tasks have some."""
    if len(states[0][SHARE]) == 0:
        return False
    if not all([(len(state[SHARE]) > 0) == (len(state[BAG]) > 0) for state in states[1:]]):
        return False
    on_way = [word[-1] for _, _, word in letters if word[0] in ("task", "share")]
    return are_whole([state[SHARE] for state in states] + on_way)


def deficits_hold(states, letters):
    """Whether each deficit is how many tasks of the house are not answered yet."""
    return all([state[DEFICIT] == many_unanswered(states, letters, house) for house, state in enumerate(states)])


def many_unanswered(states, letters, house):
    """Tell how many tasks of a house are on their way, or woke a house that is awake, or are being answered."""
    tasks = [sender for sender, _, word in letters if word[0] == "task" and sender == house]
    answers = [to for _, to, word in letters if word == ANSWER and to == house]
    woken = [state for state in states[1:] if state[PARENT] == house]
    return len(tasks) + len(answers) + len(woken)


def tree_holds(states):
    """Whether each house that is awake hangs, going from parent to parent, on house 0."""
    return all([hangs_on_first(states, house) for house, state in enumerate(states) if is_awake(state)])


def is_awake(state):
    """Whether a house with this state has a task, a deficit, or a parent."""
    return len(state[BAG]) > 0 or state[DEFICIT] > 0 or state[PARENT] is not None


def hangs_on_first(states, house):
    """Whether as many steps as there are houses, from parent to parent, lead from a house to house 0."""
    at = house
    for _ in states:
        if at is None:
            return False
        at = states[at][PARENT]
    return at == 0


def sign_holds(states, letters):
    """Whether there is one sign, and who said that all is quiet holds it."""
    held = [state for state in states if state[SIGN] is not None]
    on_way = [word for _, _, word in letters if word[0] == "sign"]
    return len(held) + len(on_way) == 1 and all([state[SIGN] is not None for state in states if state[SAID]])


def lies_told(works, glass):
    """Tell the words of those watchers that say that all is quiet while it is not."""
    if quiet_glass(works, glass):
        return ()
    told = says(works, glass[0][0])
    return tuple([word for word, flag in zip(WATCHERS, told) if flag])


def moves(works, glass):
    """Tell all that can be next."""
    check_glass(works, glass)
    return next_moves(glass)


def next_moves(glass):
    """Tell the moves of what is known to be a glass."""
    states, ways = glass
    busy = [("do", house) for house, state in enumerate(states) if len(state[BAG]) > 0]
    passing = [("pass", house) for house, state in enumerate(states) if can_pass(state)]
    taking = [("take", sender, to) for sender, to, _ in ways]
    return tuple(busy + passing + taking)


def names_houses(works, thing):
    """Whether a thing is a tuple with nothing but houses behind its first item."""
    return isinstance(thing, tuple) and all([is_house(works, item) for item in thing[1:]])


def moved(works, glass, move):
    """Tell the glass behind one of its moves."""
    check_glass(works, glass)
    # True is equal to 1 and no house: so it does not do to look among the moves.
    if not names_houses(works, move) or move not in next_moves(glass):
        raise NoMove()
    behind = behind_move(works, glass, move)
    if behind is None:
        raise NoMove()
    return behind


def behind_move(works, glass, move):
    """Tell the glass behind one of its moves, or None where a word is none then, or there is no share to halve."""
    states, ways = glass
    pairs = by_pairs(ways)
    house = move[-1]
    try:
        state, out = behind_deed(works, states, pairs, move)
    except (NoWord, NoShare):
        return None
    if move[0] == "take":
        pairs[move[1:]] = pairs[move[1:]][1:]
    for to, word in out:
        send(pairs, house, to, word)
    return (with_item(states, house, state), ways_of(pairs))


def behind_deed(works, states, pairs, move):
    """Tell the pair (state, out) of the house that moves."""
    house = move[-1]
    if move[0] == "do":
        return done(works, house, states[house])
    if move[0] == "pass":
        return passed(works, house, states[house])
    return heard_word(house, states[house], move[1], pairs[move[1:]][0])


def given_glass(works, glass, task):
    """Tell the glass behind a task that house 0 is given."""
    check_glass(works, glass)
    states, ways = glass
    return (with_item(states, 0, gifted(works, states[0], task)[0]), ways)


def run_out(works, glass):
    """Tell the glass behind all moves, the least first, the sign's only where there are no others, and how many."""
    check_glass(works, glass)
    if many_of_all(works, tasks_in(glass)) > MOST_DONE:
        raise TooMany(MOST_DONE)
    if len(broken(works, glass)) > 0:
        raise Broken()
    last, many = glass, 0
    behind = behind_next(works, last)
    while behind is not None:
        last, many = behind, many + 1
        behind = behind_next(works, last)
    return (last, many)


def behind_next(works, glass):
    """Tell the glass behind the move that is next when a glass runs out, or None if there is none."""
    pairs = by_pairs(glass[1])
    found = next_moves(glass)
    of_sign = [move for move in found if moves_sign(pairs, move)]
    others = [move for move in found if not moves_sign(pairs, move)]
    for move in others + of_sign:
        # By form alone a share may be on its way to another house than 0, where it is no word: such a way stands still.
        behind = behind_move(works, glass, move)
        if behind is not None:
            return behind
    return None


def moves_sign(pairs, move):
    """Whether a move is one of the sign."""
    return move[0] == "pass" or (move[0] == "take" and pairs[move[1:]][0][0] == "sign")


def pictured(works, parts):
    """Tell the glass of a tuple of parts of a picture, one of each house, all closed."""
    if not is_tuple_of(works.many, parts):
        raise NoParts()
    if not all([is_closed_part(works, house, part) for house, part in enumerate(parts)]):
        raise NoParts()
    pairs = {(sender, house): words for house, part in enumerate(parts) for sender, words in part[1]}
    return (tuple([part[0] for part in parts]), ways_of(pairs))
