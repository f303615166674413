"""Desks: works, runs and nets kept under names, and worked by lines."""

from knownquiet.causes import check_moment, is_ahead, least_quiet, many_cuts, vectors
from knownquiet.errors import NoDeed, NoName
from knownquiet.films import bag_row, drawn, drawn_record
from knownquiet.glass import broken
from knownquiet.lines import SHELVES, read_line
from knownquiet.nets import Net, round_trip, settle
from knownquiet.runs import Run, put_event, record_in, standing_in
from knownquiet.states import BAG, WATCHERS, says
from knownquiet.texts import read_works, record_text, works_text
from knownquiet.works import is_quiet, longest_way, many_tasks, still_to_do, tasks_of


class Desk:
    """Works, runs and nets, by their sorts and names."""

    def __init__(self):
        self.shelves = {sort: {} for sort in SHELVES}

    def tell(self, line):
        """Do what a line says, and tell what comes of it."""
        word, parts = read_line(line)
        found = [thing_on(self, sort, part) for sort, part in parts]
        if word in MAKERS:
            make = MAKERS[word]
            self.shelves[word][found[0]] = make(found[1:])
            return "ok"
        action = ACTIONS[word]
        return action(found)


def thing_on(desk, sort, part):
    """Tell what is meant by a part of a line: what is kept under a name, or the part itself."""
    if sort not in SHELVES:
        return part
    if part not in desk.shelves[sort]:
        raise NoName(part)
    return desk.shelves[sort][part]


def in_one_line(text):
    """Tell a text with a bar in the place of each line feed."""
    return text.replace("\n", "|")


def numbers_told(numbers):
    """Tell numbers, with blanks between."""
    return " ".join([str(number) for number in numbers])


def words_told(words):
    """Tell words, with blanks between, or that there are none."""
    return " ".join(words) if len(words) > 0 else "none"


def yes_or_no(flag):
    """Tell a flag."""
    return "yes" if flag else "no"


def make_works(found):
    """Make works of a text."""
    return read_works(found[0].replace("|", "\n"))


def make_run(found):
    """Make a run of the tasks given."""
    numbers = found[1:]
    return Run(found[0], tuple(zip(numbers[::2], numbers[1::2])))


def make_net(found):
    """Make a net."""
    return Net(found[0])


def tell_source(found):
    """Tell the text of works."""
    return in_one_line(works_text(found[0]))


def tell_many(found):
    """Tell how many tasks come of one, itself too."""
    works, kind, fuel = found
    return str(many_tasks(works, (kind, fuel)))


def tell_spread(found):
    """Tell by houses how many tasks come of one, itself too."""
    works, house, kind, fuel = found
    return numbers_told(tasks_of(works, house, (kind, fuel)))


def tell_way(found):
    """Tell how long the longest way of tasks is."""
    works, kind, fuel = found
    return str(longest_way(works, (kind, fuel)))


def tell_do(found):
    """Put a do behind the other events of a run."""
    return put_event(found[0], ("do",) + tuple(found[1:]))


def tell_hear(found):
    """Put a hear behind the other events of a run."""
    return put_event(found[0], ("hear",) + tuple(found[1:]))


def tell_say(found):
    """Put a say behind the other events of a run."""
    return put_event(found[0], ("say",) + tuple(found[1:]))


def tell_left(found):
    """Tell how many tasks are still to be done."""
    return str(still_to_do(found[0].works, standing_in(found[0])))


def tell_quiet(found):
    """Tell whether all is quiet."""
    return yes_or_no(is_quiet(found[0].works, standing_in(found[0])))


def tell_bags(found):
    """Tell the picture of the standing of a run."""
    return in_one_line(drawn(found[0].works, standing_in(found[0])))


def tell_line(found):
    """Tell the picture of a run."""
    return in_one_line(drawn_record(record_in(found[0])))


def tell_told(found):
    """Tell the text of a run."""
    return in_one_line(record_text(record_in(found[0])))


def tell_ahead(found):
    """Tell whether an event causes another one."""
    return yes_or_no(is_ahead(record_in(found[0]), found[1], found[2]))


def tell_vector(found):
    """Tell the vector of an event."""
    record = record_in(found[0])
    check_moment(record, found[1])
    return numbers_told(vectors(record)[found[1]])


def tell_cuts(found):
    """Tell how many cuts could have been."""
    return str(many_cuts(record_in(found[0])))


def tell_least(found):
    """Tell the least cut in which all is quiet."""
    cut = least_quiet(record_in(found[0]))
    return "none" if cut is None else numbers_told(cut)


def led(net, deed):
    """Let a net do a deed, and tell whether it could."""
    try:
        net.deed(deed)
    except NoDeed:
        return "no"
    return "ok"


def tell_give(found):
    """Give a task."""
    return led(found[0], ("give", tuple(found[1:])))


def tell_work(found):
    """Let a house do a task."""
    return led(found[0], ("do", found[1]))


def tell_pass(found):
    """Let a house pass the sign."""
    return led(found[0], ("pass", found[1]))


def tell_post(found):
    """Put a letter into the bag."""
    return led(found[0], ("post", found[1], found[2]))


def tell_bring(found):
    """Let a letter of the bag be heard."""
    return led(found[0], ("bring", found[1]))


def tell_lose(found):
    """Take a letter out of the bag."""
    return led(found[0], ("lose", found[1]))


def tell_twice(found):
    """Put a letter of the bag into it once more."""
    return led(found[0], ("double", found[1]))


def tell_fall(found):
    """Cut the disk of a house, so that so many first bytes in all of what waits are there."""
    net, house, left = found
    disk = net.disk(house)
    kept = []
    for row in disk.blocks()[disk.synced():]:
        kept.append(min(left, len(row)))
        left -= kept[-1]
    net.deed(("cut", house, tuple(kept)))
    return "ok"


def tell_bag(found):
    """Tell how many letters are in the bag."""
    return str(len(found[0].bag()))


def tell_trip(found):
    """Let a round trip be."""
    return str(round_trip(found[0]))


def tell_settle(found):
    """Let round trips be until all is quiet."""
    return str(settle(found[0], found[1]))


def tell_says(found):
    """Tell which watchers say that all is quiet."""
    told = says(found[0].works, found[0].house(0).state())
    return words_told([word for word, flag in zip(WATCHERS, told) if flag])


def tell_sums(found):
    """Tell which sums are broken."""
    return words_told(broken(found[0].works, found[0].glass()))


def tell_shape(found):
    """Tell what each house has to do, and how many words are on each way."""
    states, ways = found[0].glass()
    rows = [bag_row(house, state[BAG]) for house, state in enumerate(states)]
    rows.extend([f"{sender}>{to}: {len(words)}" for sender, to, words in ways])
    return "".join([row + "|" for row in rows])


MAKERS = {"works": make_works, "run": make_run, "net": make_net}
ACTIONS = {
    "source": tell_source, "many": tell_many, "spread": tell_spread, "way": tell_way, "do": tell_do, "hear": tell_hear,
    "say": tell_say, "left": tell_left, "quiet": tell_quiet, "bags": tell_bags, "line": tell_line, "told": tell_told,
    "ahead": tell_ahead, "vector": tell_vector, "cuts": tell_cuts, "least": tell_least, "give": tell_give,
    "work": tell_work, "pass": tell_pass, "post": tell_post, "bring": tell_bring, "lose": tell_lose,
    "twice": tell_twice, "fall": tell_fall, "bag": tell_bag, "trip": tell_trip, "settle": tell_settle,
    "says": tell_says, "sums": tell_sums, "shape": tell_shape,
}
