"""Watchers: how much is left until each of the three says that all is quiet, once it is."""

from knownquiet.errors import Broken, NotQuiet
from knownquiet.glass import broken, quiet_glass, words_of
from knownquiet.states import BLACK, DEFICIT, HEARD, SAID, SENT, SIGN


def check_quiet(works, glass):
    """Raise NoGlass for what is none, NotQuiet for one that is not quiet, Broken for one with a broken sum."""
    if not quiet_glass(works, glass):
        raise NotQuiet()
    if len(broken(works, glass)) > 0:
        raise Broken()


def answers_left(works, glass):
    """Tell how many answers are still to be heard until the tree says so."""
    check_quiet(works, glass)
    return sum([state[DEFICIT] for state in glass[0]])


def shares_left(works, glass):
    """Tell how many shares are still to be heard until the coin says so."""
    check_quiet(works, glass)
    return len([word for _, _, word in words_of(glass) if word[0] == "share"])


def signs_left(works, glass):
    """Tell how many times the sign is still to be sent until the ring says so."""
    check_quiet(works, glass)
    states = glass[0]
    if states[0][SAID]:
        return 0
    house, sign = place_of_sign(glass)
    blacks = [state[BLACK] for state in states]
    many = 0
    # Nobody works any more: so the sign is passed wherever it comes, and blacks only become fewer.
    while house > 0 or not is_clean(states[0], blacks[0], sign):
        many += 1
        sign = sign_behind(states, blacks, house, sign)
        blacks[house] = False
        house = (house - 1) % works.many
    return many


def place_of_sign(glass):
    """Tell the house that holds the sign, or to which it is on its way, and the sign."""
    states = glass[0]
    held = [(house, state[SIGN]) for house, state in enumerate(states) if state[SIGN] is not None]
    on_way = [(to, word[1:]) for _, to, word in words_of(glass) if word[0] == "sign"]
    return (held + on_way)[0]


def is_clean(state, black, sign):
    """Whether house 0, looking at the sign, says so."""
    return not black and sign[2] == 0 and sign[0] + state[SENT] == sign[1] + state[HEARD]


def sign_behind(states, blacks, house, sign):
    """Tell the sign as a house sends it on."""
    if house == 0:
        return (0, 0, 0)
    stained = 1 if blacks[house] else sign[2]
    return (sign[0] + states[house][SENT], sign[1] + states[house][HEARD], stained)
