"""Posts: live houses, each with the ends of its links from and to all houses."""

from knownquiet.errors import NoDeed, NoNumber, NoPast, NoShare, NoSign, NoTask, NothingThere, NoWord
from knownquiet.forms import is_below, is_number, is_tuple_of
from knownquiet.links import (
    NUMBERS, Incoming, Outgoing, incoming_of, is_incoming_state, is_outgoing_state, outgoing_of,
)
from knownquiet.pictures import (
    are_pictures, new_picture, part_told, pictures_of, pictures_told, with_closed, with_word,
)
from knownquiet.rows import sealed, unsealed
from knownquiet.states import PICTURES, begun, done, gifted, heard_word, is_state, is_word, passed
from knownquiet.works import check_house, is_house, is_task

MOST_ITEMS = 20


class Post:
    """A live house: its state, the ends of its links by houses, and its pictures by their numbers."""

    def __init__(self, works, number):
        check_house(works, number)
        self.works = works
        self.number = number
        self.own = begun(works, number)
        self.outs = [Outgoing() for _ in range(works.many)]
        self.ins = [Incoming() for _ in range(works.many)]
        self.pictures = {}

    def state(self):
        """Tell its state."""
        return self.own

    def past(self):
        """Tell all of which it can be made anew: (state, outs, ins, pictures)."""
        outs = tuple([end.state() for end in self.outs])
        ins = tuple([end.state() for end in self.ins])
        return (self.own, outs, ins, pictures_told(self.pictures))

    def deed(self, thing):
        """Do a deed, and put what it sends into its links; of a row that is heard, tell how it was."""
        if not is_deed(self.works, thing):
            raise NoDeed()
        if thing[0] == "hear":
            return hear_row(self, thing[1])
        try:
            do_deed(self, thing)
        except (NoTask, NothingThere, NoShare, NoSign):
            raise NoDeed()
        return None

    def letter(self, to):
        """Tell the sealed row of its letter to a house."""
        check_house(self.works, to)
        items = tuple(self.outs[to].waiting()[:MOST_ITEMS])
        return sealed(("letter", self.number, to, self.ins[to].taken(), items))

    def part_of(self, number):
        """Tell its part of a picture, or None if it has not begun it."""
        if not is_below(PICTURES, number):
            raise NoNumber()
        if number not in self.pictures:
            return None
        return part_told(self.pictures[number])

    def copy(self):
        """Another Post in this state, that goes on apart."""
        return copied(self)


def copied(post):
    """A Post like this one, that goes on apart."""
    other = Post(post.works, post.number)
    other.outs = [end.copy() for end in post.outs]
    other.ins = [end.copy() for end in post.ins]
    other.own = post.own
    other.pictures = {number: post.pictures[number] for number in post.pictures}
    return other


def become(post, other):
    """Let a Post be what another one is, which does not go on."""
    post.own = other.own
    post.outs = other.outs
    post.ins = other.ins
    post.pictures = other.pictures


def post_of(works, number, past):
    """The Post with this past."""
    check_house(works, number)
    if not is_past(works, number, past):
        raise NoPast()
    state, outs, ins, pictures = past
    post = Post(works, number)
    post.own = state
    post.outs = [outgoing_of(told) for told in outs]
    post.ins = [incoming_of(told) for told in ins]
    post.pictures = pictures_of(pictures)
    return post


def is_past(works, house, thing):
    """Whether a thing has the form of the past of a house of these works."""
    if not is_tuple_of(4, thing):
        return False
    state, outs, ins, pictures = thing
    if not is_state(works, house, state) or not are_pictures(works, house, pictures):
        return False
    if not is_tuple_of(works.many, outs) or not is_tuple_of(works.many, ins):
        return False
    return all([is_out(works, told) for told in outs]) and all([is_in(works, told) for told in ins])


def is_out(works, thing):
    """Whether a thing is the state of the end of a link at which words were put."""
    return is_outgoing_state(thing) and all([is_word(works, item) for item in thing[1]])


def is_in(works, thing):
    """Whether a thing is the state of the end of a link at which words are taken."""
    return is_incoming_state(thing) and all([is_word(works, pair[1]) for pair in thing[1]])


def is_deed(works, thing):
    """Whether a thing has the form of a deed."""
    if not isinstance(thing, tuple) or len(thing) == 0 or not isinstance(thing[0], str):
        return False
    name, rest = thing[0], thing[1:]
    if name in ("do", "pass"):
        return len(rest) == 0
    if len(rest) != 1:
        return False
    if name == "give":
        return is_task(works, rest[0])
    if name == "picture":
        return is_below(PICTURES, rest[0])
    # Whatever may be heard: what is no row is heard by nobody, as what is sealed of nothing is.
    return name == "hear"


def do_deed(post, thing):
    """Let a Post do what has the form of a deed, but hear no row."""
    name = thing[0]
    if name == "give":
        # Only house 0 is given tasks.
        if post.number > 0:
            raise NoDeed()
        follow(post, gifted(post.works, post.own, thing[1]))
    elif name == "do":
        follow(post, done(post.works, post.number, post.own))
    elif name == "pass":
        follow(post, passed(post.works, post.number, post.own))
    elif thing[1] in post.pictures:
        raise NoDeed()
    else:
        begin_picture(post, thing[1])


def follow(post, pair):
    """Let a Post have the state of a pair (state, out), and put what is sent into its links."""
    state, out = pair
    post.own = state
    for to, word in out:
        post.outs[to].put(word)


def begin_picture(post, number):
    """Let a Post begin a picture that it has not begun."""
    post.pictures[number] = new_picture(post.works, post.own)
    for end in post.outs:
        end.put(("mark", number))


def hear_row(post, row):
    """Let a Post hear what should be a row, and tell whether it was none, old, or new."""
    letter = letter_for(post, row)
    if letter is None:
        return "none"
    # All or nothing: a word that is none may stand behind others, so they are heard apart at first.
    other = copied(post)
    try:
        hear_letter(other, letter)
    except NoWord:
        return "none"
    if other.past() == post.past():
        return "old"
    become(post, other)
    return "new"


def letter_for(post, row):
    """Tell the letter for a Post of which a row is sealed, or None."""
    found = unsealed(row)
    if len(found) == 0 or not is_letter(post.works, found[0]):
        return None
    letter = found[0]
    _, sender, to, taken, _ = letter
    if to != post.number or taken > post.outs[sender].many_put():
        return None
    return letter


def is_letter(works, thing):
    """Whether a thing has the form of a letter."""
    if not is_tuple_of(5, thing) or thing[0] != "letter":
        return False
    _, sender, to, taken, items = thing
    if not is_house(works, sender) or not is_house(works, to) or not is_number(taken):
        return False
    if not isinstance(items, tuple) or len(items) > MOST_ITEMS:
        return False
    return all([is_item(works, item) for item in items])


def is_item(works, thing):
    """Whether a thing is a pair of a number that the end of a link hears, and a word."""
    return is_tuple_of(2, thing) and is_below(NUMBERS, thing[0]) and is_word(works, thing[1])


def hear_letter(post, letter):
    """Let a Post know what its letter tells, and take what can be taken now."""
    _, sender, _, taken, items = letter
    post.outs[sender].known(taken)
    for number, word in items:
        for told in post.ins[sender].take(number, word):
            take_word(post, sender, told)


def take_word(post, sender, word):
    """Let a Post take a word from a sender."""
    if word[0] == "mark":
        take_mark(post, sender, word[1])
        return
    follow(post, heard_word(post.number, post.own, sender, word))
    post.pictures = with_word(post.pictures, sender, word)


def take_mark(post, sender, number):
    """Let a Post take the mark of a picture, which closes the way from its sender."""
    if number not in post.pictures:
        begin_picture(post, number)
    post.pictures[number] = with_closed(post.pictures[number], sender)
