"""Pictures of moments: what a house keeps of each that it has begun, by its number.

A picture is the triple (state, kept, unclosed): the state in which the house began it, the ascending pairs
(from, words) of what it took since then, and the lot of the houses whose mark did not come yet.
"""

from knownquiet.errors import NoWord
from knownquiet.forms import is_below, is_lot_below, is_tuple_of, rises
from knownquiet.states import PICTURES, are_words, is_state
from knownquiet.works import is_house


def are_pictures(works, house, thing):
    """Whether a thing is the ascending tuple of the pictures in a past of a house."""
    if not isinstance(thing, tuple) or not all([is_told_picture(works, house, item) for item in thing]):
        return False
    return rises([item[0] for item in thing])


def is_told_picture(works, house, thing):
    """Whether a thing is a tuple of the number of a picture, and what a house keeps of it."""
    if not is_tuple_of(4, thing):
        return False
    number, state, kept, unclosed = thing
    if not is_below(PICTURES, number) or not is_state(works, house, state):
        return False
    return are_kept(works, kept) and is_lot_below(works.many, unclosed)


def are_kept(works, thing):
    """Whether a thing is an ascending tuple of pairs (from, words), each from once."""
    if not isinstance(thing, tuple) or not all([is_kept(works, item) for item in thing]):
        return False
    return rises([item[0] for item in thing])


def is_kept(works, thing):
    """Whether a thing is a pair of a house and words that were kept, one at least, no marks."""
    if not is_tuple_of(2, thing) or not is_house(works, thing[0]) or not are_words(works, thing[1]):
        return False
    return len(thing[1]) > 0 and all([word[0] != "mark" for word in thing[1]])


def pictures_told(pictures):
    """Tell the ascending tuple of pictures that stands in a past."""
    return tuple([(number,) + pictures[number] for number in sorted(pictures)])


def pictures_of(told):
    """Tell the pictures of such a tuple by their numbers."""
    return {item[0]: item[1:] for item in told}


def new_picture(works, state):
    """Tell the picture that a house with this state begins."""
    return (state, (), tuple(range(works.many)))


def with_word(pictures, sender, word):
    """Tell the pictures of a house that takes a word, no mark, from a sender."""
    return {number: with_kept(pictures[number], sender, word) for number in pictures}


def with_kept(picture, sender, word):
    """Tell the picture behind a word, which is kept if the way from its sender is not closed."""
    state, kept, unclosed = picture
    if sender not in unclosed:
        return picture
    words = {house: told for house, told in kept}
    words[sender] = words.get(sender, ()) + (word,)
    return (state, tuple([(house, words[house]) for house in sorted(words)]), unclosed)


def with_closed(picture, sender):
    """Tell the picture behind its mark that comes from a sender, over a way that was not closed."""
    state, kept, unclosed = picture
    if sender not in unclosed:
        raise NoWord()
    return (state, kept, tuple([house for house in unclosed if house != sender]))


def part_told(picture):
    """Tell the part that a picture is: the triple (state, kept, closed)."""
    state, kept, unclosed = picture
    return (state, kept, len(unclosed) == 0)


def is_closed_part(works, house, thing):
    """Whether a thing is the part that a house has of a picture when all ways are closed."""
    if not is_tuple_of(3, thing):
        return False
    state, kept, closed = thing
    return is_state(works, house, state) and are_kept(works, kept) and closed is True
