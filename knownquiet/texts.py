"""Texts: works and records as lines of words."""

from knownquiet.errors import BadText
from knownquiet.records import Record
from knownquiet.states import WATCHERS
from knownquiet.works import Works

MOST_FIGURES = 9
# The sorts of lines, in the order in which they stand.
HOUSES = 0
KIND = 1
GIVEN = 2
EVENT = 3


def works_text(works):
    """Tell the text of works."""
    lines = [f"houses {works.many}\n"]
    for rule in works.rules:
        lines.append("kind" + "".join([f" {step}:{kind}" for step, kind in rule]) + "\n")
    return "".join(lines)


def record_text(record):
    """Tell the text of a record."""
    given = [f"given {kind} {fuel}\n" for kind, fuel in record.given]
    events = [" ".join([str(part) for part in event]) + "\n" for event in record.events]
    return works_text(record.ruled) + "".join(given) + "".join(events)


def read_works(text):
    """Tell the Works of a text."""
    found = read_lines(text, KIND)
    return works_in(found)


def read_record(text):
    """Tell the Record of a text."""
    found = read_lines(text, EVENT)
    return Record(works_in(found), things_of(found, GIVEN), things_of(found, EVENT))


def works_in(found):
    """Tell the Works of which lines that were read tell."""
    return Works(found[0][1], things_of(found, KIND))


def things_of(found, sort):
    """Tell what the lines of a sort tell."""
    return tuple([thing for there, thing in found if there == sort])


def read_lines(text, last):
    """Tell the pairs (sort, what it tells) of all lines, of sorts up to the last one."""
    if not isinstance(text, str):
        raise BadText(0)
    parts = text.split("\n")
    found = []
    for number, line in enumerate(parts[:-1], start=1):
        sort, thing = read_text_line(line)
        if not is_due(found, last, sort):
            raise BadText(number)
        found.append((sort, thing))
    # What stands behind the last line feed is not closed by one.
    if parts[-1] != "" or len(found) < 2:
        raise BadText(len(parts))
    return found


def is_due(found, last, sort):
    """Whether a line of a sort, or of none, may stand behind those found, where sorts go up to the last one."""
    if sort is None or sort > last:
        return False
    if len(found) == 0:
        return sort == HOUSES
    if len(found) == 1:
        return sort == KIND
    return sort >= found[-1][0]


def read_text_line(line):
    """Tell the pair (sort, what it tells) of a line; the sort is None if it has no form."""
    words = line.split(" ")
    name, rest = words[0], words[1:]
    if name == "kind":
        return read_kind(rest)
    if name == "say":
        return read_say(rest)
    numbers = tuple([number_in(word) for word in rest])
    if None in numbers:
        return (None, None)
    if name == "houses" and len(numbers) == 1:
        return (HOUSES, numbers[0])
    if name == "given" and len(numbers) == 2:
        return (GIVEN, numbers)
    if (name == "do" and len(numbers) == 1) or (name == "hear" and len(numbers) == 2):
        return (EVENT, (name,) + numbers)
    return (None, None)


def read_kind(words):
    """Tell the pair (sort, rule) of a line of pairs."""
    pairs = [word.partition(":") for word in words]
    rule = tuple([(number_in(step), number_in(kind)) for step, _, kind in pairs])
    if None in [number for pair in rule for number in pair]:
        return (None, None)
    return (KIND, rule)


def read_say(words):
    """Tell the pair (sort, event) of a line of a say."""
    if len(words) != 2 or number_in(words[0]) is None or words[1] not in WATCHERS:
        return (None, None)
    return (EVENT, ("say", number_in(words[0]), words[1]))


def number_in(word):
    """Tell the number that a word is, decimal without needless zeros; None for a word that is none."""
    if not word.isascii() or not word.isdigit() or len(word) > MOST_FIGURES:
        return None
    return int(word) if str(int(word)) == word else None
