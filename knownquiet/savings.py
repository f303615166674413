"""Savings: houses whose past lasts, for what they do is noted on a disk ahead of each letter."""

from knownquiet.disks import Disk
from knownquiet.errors import NoDeed, NoDisk, OtherHouse
from knownquiet.forms import is_tuple_of
from knownquiet.posts import Post, become, is_past, post_of
from knownquiet.rows import sealed, unsealed
from knownquiet.works import check_house


class SavedHouse(Post):
    """A Post that notes on a disk what it does, and goes on from what it finds there."""

    def __init__(self, works, number, disk):
        Post.__init__(self, works, number)
        if not isinstance(disk, Disk):
            raise NoDisk()
        self.store = disk
        begin_journal(disk, first_block(works, number))
        become(self, post_from(works, number, disk))

    def state(self):
        """Tell its state."""
        return super().state()

    def past(self):
        """Tell all of which it can be made anew: (state, outs, ins, pictures)."""
        return super().past()

    def deed(self, thing):
        """Do a deed, as a Post does, and note it if its past is another one then."""
        told = super().deed(thing)
        if tells_change(told):
            self.store.write(sealed(("deed", thing)))
        return told

    def letter(self, to):
        """Tell the sealed row of its letter to a house; what it did lasts ahead of that."""
        check_house(self.works, to)
        self.store.sync()
        return super().letter(to)

    def part_of(self, number):
        """Tell its part of a picture, or None if it has not begun it."""
        return super().part_of(number)

    def copy(self):
        """A Post in this state, that goes on apart, and writes on no disk."""
        return super().copy()

    def keep(self):
        """Write its past, let all that is written last, and tell how many blocks there are."""
        number = self.store.write(past_block(self))
        self.store.sync()
        return number + 1

    def moved(self, disk):
        """Another SavedHouse with this past, over a disk without blocks."""
        if not isinstance(disk, Disk) or len(disk.blocks()) > 0:
            raise NoDisk()
        disk.write(first_block(self.works, self.number))
        disk.write(past_block(self))
        return SavedHouse(self.works, self.number, disk)


def first_block(works, number):
    """Tell the first block of the disk of a house."""
    return sealed(("house", works.many, works.rules, number))


def past_block(post):
    """Tell the block that holds the past of a Post."""
    return sealed(("past", post.past()))


def begin_journal(disk, first):
    """Let a disk have this first block: OtherHouse for that of another house."""
    blocks = disk.blocks()
    if len(blocks) > 0 and blocks[0] == first:
        return
    if len(blocks) > 0 and is_of_house(unsealed(blocks[0])):
        raise OtherHouse()
    disk.drop(0)
    disk.write(first)


def is_of_house(found):
    """Whether what a block is sealed of, perhaps of nothing, tells of a house."""
    return len(found) > 0 and is_tuple_of(4, found[0]) and found[0][0] == "house"


def post_from(works, number, disk):
    """Tell the Post of which the blocks behind the first one tell, and drop those from the first on that does not."""
    post = Post(works, number)
    blocks = disk.blocks()
    good = 1
    while good < len(blocks) and follow_block(post, unsealed(blocks[good])):
        good += 1
    disk.drop(good)
    disk.sync()
    return post


def follow_block(post, found):
    """Let a Post go on by what a block is sealed of, perhaps of nothing, and tell whether it could."""
    if len(found) == 0 or not is_tuple_of(2, found[0]):
        return False
    word, thing = found[0]
    if word == "past" and is_past(post.works, post.number, thing):
        become(post, post_of(post.works, post.number, thing))
        return True
    return word == "deed" and changes(post, thing)


def changes(post, thing):
    """Let a Post do a deed, if it can, and tell whether its past is another one then."""
    try:
        return tells_change(post.deed(thing))
    except NoDeed:
        return False


def tells_change(told):
    """Whether a deed that told this has changed the past: whatever is done but hearing does."""
    return told is None or told == "new"
