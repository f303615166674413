"""Promise [11.4]: desks, worked by lines."""

import random
import unittest

from knownquiet.causes import is_ahead, least_quiet, many_cuts, vectors
from knownquiet.desks import Desk
from knownquiet.errors import (
    BadText, BadWorks, NoDeed, NoEvent, NoGiven, NoHouse, NoLine, NoMoment, NoName, NoNumber, NoTask, QuietError, TooMany,
)
from knownquiet.films import drawn, drawn_record
from knownquiet.glass import broken
from knownquiet.nets import Net, round_trip, settle
from knownquiet.records import Record, first_wrong, standing_at
from knownquiet.states import says
from knownquiet.texts import record_text, works_text
from knownquiet.works import Works, is_quiet, longest_way, many_tasks, still_to_do, tasks_of
from tests.odd import odd_things
from tests.told import BUSY, EACH, THREE, WATCHERS, WORKS, any_event, can_be_done

ASKS = ("left", "quiet", "bags", "line", "told", "cuts", "least")
TWO = "works a houses 2|kind 1:0|"
# A line of each form; of what is kept there are the works "a", the run "r", the net "n".
LINES = (
    TWO, "source a", "many a 0 3", "spread a 1 0 3", "way a 0 3", "run r a 0 1", "do r 0", "hear r 1 0", "say r 0 tree", "left r",
    "quiet r", "bags r", "line r", "told r", "ahead r 0 1", "vector r 0", "cuts r", "least r", "net n a", "give n 0 1",
    "work n 0",
    "pass n 0", "post n 0 1", "bring n 0", "lose n 0", "twice n 0", "fall n 0 3", "bag n", "trip n", "settle n 9",
    "says n", "sums n",
    "shape n",
)


def desk_of(*lines):
    """A Desk that was told these lines."""
    desk = Desk()
    for line in lines:
        desk.tell(line)
    return desk


def full():
    """A Desk with works "a", a run "r" and a net "n"."""
    return desk_of(TWO, "run r a 0 1", "net n a")


def told(desk, line):
    """What a desk tells, or the class of the error that it raises."""
    try:
        return desk.tell(line)
    except QuietError as error:
        return error.__class__


def state_of(desk):
    """All that a desk with "a", "r", "n" tells of them."""
    lines = ["source a"] + [f"{word} r" for word in ASKS] + [f"{word} n" for word in ("bag", "says", "sums", "shape")]
    return [told(desk, line) for line in lines]


def in_one_line(text):
    return text.replace("\n", "|")


class WorksTest(unittest.TestCase):
    def test_works_and_source(self):
        for works in EACH:
            text = in_one_line(works_text(works))
            desk = Desk()
            self.assertEqual(desk.tell("works abcdefgh " + text), "ok")
            self.assertEqual(desk.tell("source abcdefgh"), text)
        desk = full()
        self.assertEqual(desk.tell("source a"), "houses 2|kind 1:0|")

    def test_bad_texts(self):
        desk = full()
        before = state_of(desk)
        for text, line in [
            ("x", 1), (" ", 1), ("|", 1), ("houses 2", 1), ("houses 2|", 2), ("houses 2|kind 1:0", 2),
            ("houses 2|kind 1:0| ", 3),
            (" houses 2|kind 1:0|", 1), ("houses 2||", 2), ("houses 2|kind 1:0|do 0|", 3), ("houses 02|kind|", 1),
        ]:
            with self.assertRaises(BadText, msg=text) as caught:
                desk.tell("works a " + text)
            self.assertEqual(caught.exception.line, line)
        for text, part in [("houses 7|kind|", "many"), ("houses 2|kind 2:0|", 0), ("houses 2" + "|kind" * 7 + "|", -1)]:
            with self.assertRaises(BadWorks) as caught:
                desk.tell("works a " + text)
            self.assertEqual(caught.exception.part, part)
        self.assertEqual(state_of(desk), before)

    def test_numbers_of_tasks(self):
        for works in EACH:
            desk = desk_of("works w " + in_one_line(works_text(works)))
            for kind in range(len(works.rules) + 1):
                for fuel in (0, 1, 5, 12, 13, 999999999):
                    fine = kind < len(works.rules) and fuel < 13
                    task = (kind, fuel)
                    found = told(desk, f"many w {kind} {fuel}")
                    self.assertEqual(found, str(many_tasks(works, task)) if fine else NoTask)
                    found = told(desk, f"way w {kind} {fuel}")
                    self.assertEqual(found, str(longest_way(works, task)) if fine else NoTask)
                    for house in (0, works.many - 1):
                        found = told(desk, f"spread w {house} {kind} {fuel}")
                        many = " ".join(str(number) for number in tasks_of(works, house, task)) if fine else NoTask
                        self.assertEqual(found, many)
                    self.assertEqual(told(desk, f"spread w {works.many} {kind} {fuel}"), NoHouse)
        self.assertEqual(full().tell("many a 0 3"), "4")
        self.assertEqual(full().tell("spread a 0 0 3"), "2 2")
        self.assertEqual(full().tell("way a 0 3"), "4")


class RunTest(unittest.TestCase):
    def test_by_hand(self):
        desk = full()
        for line, answer in [
            ("left r", "2"), ("quiet r", "no"), ("bags r", "0: 0.1|1:|"), ("line r", "||"), ("cuts r", "1"),
            ("least r", "none"),
            ("told r", "houses 2|kind 1:0|given 0 1|"), ("do r 1", "idle"), ("hear r 1 0", "empty"), ("do r 0", "ok"),
            ("say r 0 ring", "lie"), ("do r 0", "idle"), ("bags r", "0:|1:|0>1: 0.0|"), ("hear r 0 1", "empty"),
            ("hear r 1 0", "ok"), ("left r", "1"), ("do r 1", "ok"), ("left r", "0"), ("quiet r", "yes"),
            ("say r 0 tree", "ok"),
            ("line r", "d!..s|..hd.|"), ("ahead r 0 3", "yes"), ("ahead r 3 0", "no"), ("ahead r 1 3", "no"),
            ("ahead r 2 2", "no"),
            ("vector r 0", "1 0"), ("vector r 3", "1 2"), ("vector r 4", "3 0"), ("cuts r", "10"), ("least r", "1 2"),
            ("told r", "houses 2|kind 1:0|given 0 1|do 0|say 0 ring|hear 1 0|do 1|say 0 tree|"), ("bags r", "0:|1:|"),
        ]:
            self.assertEqual(desk.tell(line), answer, line)

    def test_given(self):
        desk = full()
        self.assertEqual(desk.tell("run b a"), "ok")
        self.assertEqual((desk.tell("left b"), desk.tell("quiet b"), desk.tell("least b")), ("0", "yes", "0 0"))
        self.assertEqual(desk.tell("run b a 0 12 0 0 0 1"), "ok")
        self.assertEqual(desk.tell("told b"), "houses 2|kind 1:0|given 0 12|given 0 0|given 0 1|")
        self.assertEqual(desk.tell("run b a" + " 0 1" * 20), "ok")
        self.assertEqual(desk.tell("left b"), "40")
        for rest in (" 0 1" * 21, " 1 0", " 0 13", " 0 1 9 9", " 999999999 0"):
            self.assertEqual(told(desk, "run b a" + rest), NoGiven)
            self.assertEqual(told(desk, "run c a" + rest), NoGiven)
        self.assertEqual(desk.tell("left b"), "40")
        self.assertEqual(told(desk, "left c"), NoName)

    def test_no_event(self):
        desk = full()
        desk.tell("do r 0")
        before = state_of(desk)
        for line in [
            "do r 2", "do r 999999999", "hear r 2 0", "hear r 0 2", "hear r 2 2", "say r 2 tree", "say r 0 trees",
            "say r 0 Tree",
            "say r 0 0", "say r 0 mark", "say r 2 x", "say r 0 |", "say r 1 tree|", "say r 0 tree,ring",
        ]:
            self.assertEqual(told(desk, line), NoEvent, line)
        self.assertEqual(state_of(desk), before)

    def test_no_moment(self):
        desk = full()
        for line in ("ahead r 0 0", "vector r 0", "ahead r 0 999999999"):
            self.assertEqual(told(desk, line), NoMoment)
        desk.tell("do r 0")
        self.assertEqual((desk.tell("ahead r 0 0"), desk.tell("vector r 0")), ("no", "1 0"))
        for line in ("ahead r 0 1", "ahead r 1 0", "vector r 1", "vector r 999999999"):
            self.assertEqual(told(desk, line), NoMoment)

    def test_full(self):
        desk = full()
        desk.tell("do r 0")
        for _ in range(1999):
            self.assertEqual(desk.tell("say r 1 coin"), "lie")
        before = state_of(desk)
        for line in ("say r 1 coin", "say r 0 tree", "hear r 1 0"):
            self.assertEqual(desk.tell(line), "full")
        # What can't be done is still told first.
        self.assertEqual((desk.tell("do r 0"), desk.tell("hear r 0 1")), ("idle", "empty"))
        self.assertEqual(told(desk, "do r 2"), NoEvent)
        self.assertEqual(state_of(desk), before)
        self.assertEqual(len(desk.tell("line r")), 2 * 2001)

    def test_too_many_cuts(self):
        desk = desk_of("works f houses 6|kind|", "run f f")
        for number in range(60):
            desk.tell(f"say f {number % 6} tree")
        with self.assertRaises(TooMany) as caught:
            desk.tell("cuts f")
        self.assertEqual(caught.exception.most, 20000)

    def test_beside_records(self):
        chance = random.Random(1)
        words = {}
        for number in range(25):
            works = EACH[number % 5]
            given = tuple((0, chance.randint(0, 3)) for _ in range(chance.randint(0, 3)))
            desk = desk_of("works w " + in_one_line(works_text(works)))
            desk.tell("run r w" + "".join(f" {kind} {fuel}" for kind, fuel in given))
            events = ()
            for _ in range(30):
                can = can_be_done(works, standing_at(Record(works, given, events), len(events)))
                event = chance.choice(can) if can and chance.randrange(4) else any_event(works, chance)
                word = desk.tell(" ".join([event[0], "r"] + [str(part) for part in event[1:]]))
                # Without the lies ahead of it, the event is the first that may be wrong.
                last = first_wrong(Record(works, given, tuple(there for there in events if there[0] != "say") + (event,)))
                self.assertEqual(word, last[1] if last else "ok", event)
                words[word] = words.get(word, 0) + 1
                events += (event,) if word in ("ok", "lie") else ()
                self.check_run(desk, works, Record(works, given, events))
        self.assertEqual(sorted(words), ["empty", "idle", "lie", "ok"])

    def check_run(self, desk, works, record):
        many = len(record.events)
        standing = standing_at(record, many)
        self.assertEqual(desk.tell("left r"), str(still_to_do(works, standing)))
        self.assertEqual(desk.tell("quiet r"), "yes" if is_quiet(works, standing) else "no")
        self.assertEqual(desk.tell("bags r"), in_one_line(drawn(works, standing)))
        self.assertEqual(desk.tell("line r"), in_one_line(drawn_record(record)))
        self.assertEqual(desk.tell("told r"), in_one_line(record_text(record)))
        least = least_quiet(record)
        self.assertEqual(desk.tell("least r"), "none" if least is None else " ".join(str(number) for number in least))
        if many in (8, 16):
            self.assertEqual(desk.tell("cuts r"), str(many_cuts(record)))
            for index in range(many):
                self.assertEqual(desk.tell(f"vector r {index}"), " ".join(str(number) for number in vectors(record)[index]))
                self.assertEqual(desk.tell(f"ahead r 3 {index}"), "yes" if is_ahead(record, 3, index) else "no")


class NetTest(unittest.TestCase):
    def test_by_hand(self):
        desk = full()
        for line, answer in [
            ("says n", "tree ring coin"), ("sums n", "none"), ("shape n", "0:|1:|"), ("bag n", "0"), ("trip n", "0"),
            ("settle n 9", "0"),
            ("work n 0", "no"), ("pass n 0", "no"), ("give n 0 2", "ok"), ("shape n", "0: 0.2|1:|"), ("says n", "none"),
            ("work n 0", "ok"), ("pass n 0", "ok"), ("pass n 0", "no"), ("shape n", "0:|1:|0>1: 2|"),
            ("post n 0 1", "ok"),
            ("twice n 0", "ok"), ("bag n", "2"), ("bring n 0", "ok"), ("bag n", "1"), ("shape n", "0:|1: 0.1|"),
            ("lose n 0", "ok"),
            ("lose n 0", "no"), ("bring n 0", "no"), ("twice n 0", "no"), ("trip n", "1"), ("settle n 1", "1"),
            ("settle n 1000", "3"),
            ("says n", "tree ring coin"), ("shape n", "0:|1:|"), ("sums n", "none"),
        ]:
            self.assertEqual(desk.tell(line), answer, line)

    def test_one_watcher_alone(self):
        # House 2 has done the last task: its share goes to house 0, its answer to house 1, which does not hear it yet.
        desk = desk_of("works c houses 3|kind 1:0|", "net c c", "give c 0 2")
        for house in range(3):
            desk.tell(f"work c {house}")
            desk.tell(f"post c {house} {(house + 1) % 3}")
            desk.tell("bring c 0")
        self.assertEqual((desk.tell("says c"), desk.tell("shape c")), ("none", "0:|1:|2:|1>0: 1|2>1: 1|"))
        for line in ("post c 1 0", "bring c 0"):
            desk.tell(line)
        self.assertEqual((desk.tell("says c"), desk.tell("sums c")), ("coin", "none"))

    def test_broken_sums(self):
        # No deeds break a sum: so the houses are changed from within.
        desk = full()
        house = desk.shelves["net"]["n"].house(0)
        house.own = house.own[:3] + (1,) + house.own[4:]
        self.assertEqual(desk.tell("sums n"), "counts")
        house.own = house.own[:7] + ((), ) + house.own[8:]
        self.assertEqual(desk.tell("sums n"), "counts shares")

    def test_what_cannot_be_done(self):
        desk = full()
        before = state_of(desk)
        for line in [
            "give n 1 0", "give n 0 13", "work n 0", "work n 2", "pass n 1", "pass n 9", "post n 2 0", "post n 0 2",
            "bring n 0",
            "lose n 0", "twice n 0", "bring n 999999999",
        ]:
            self.assertEqual(desk.tell(line), "no", line)
        self.assertEqual(state_of(desk), before)
        self.assertEqual([told(desk, line) for line in ("settle n 1001", "settle n 999999999")], [NoNumber, NoNumber])
        self.assertEqual([told(desk, line) for line in ("fall n 2 0", "fall n 999999999 7")], [NoHouse, NoHouse])
        self.assertEqual(state_of(desk), before)

    def test_fall(self):
        rows = [len(block) for block in self.fallen(0, None).disk(0).blocks()]
        self.assertEqual(len(rows), 4)
        for many in list(range(sum(rows[1:]) + 3)) + [999999999]:
            desk = desk_of(TWO, "net n a", "give n 0 2", "work n 0", "pass n 0")
            self.assertEqual(desk.tell(f"fall n 0 {many}"), "ok")
            net = self.fallen(0, many)
            states, ways = net.glass()
            rows = "".join(f"{house}:" + "".join(f" {kind}.{fuel}" for kind, fuel in state[0]) + "|" for house, state in enumerate(states))
            self.assertEqual(desk.tell("shape n"), rows + "".join(f"{way[0]}>{way[1]}: {len(way[2])}|" for way in ways))
        desk = desk_of(TWO, "net n a", "give n 0 2", "post n 0 1", "work n 0")
        self.assertEqual([desk.tell("fall n 0 0"), desk.tell("shape n")], ["ok", "0: 0.2|1:|"])
        self.assertEqual([desk.tell("fall n 1 5"), desk.tell("shape n")], ["ok", "0: 0.2|1:|"])

    def fallen(self, house, many):
        """A net of which the disk of a house is cut behind so many bytes of what waits."""
        net = Net(WORKS)
        for deed in (("give", (0, 2)), ("do", 0), ("pass", 0)):
            net.deed(deed)
        if many is not None:
            disk = net.disk(house)
            kept = []
            for row in disk.blocks()[disk.synced():]:
                kept.append(min(len(row), many - sum(kept)))
            net.deed(("cut", house, tuple(kept)))
        return net

    def test_beside_nets(self):
        chance = random.Random(2)
        seen = set()
        for number in range(10):
            works = EACH[number % 5]
            desk = desk_of("works w " + in_one_line(works_text(works)), "net n w")
            net = Net(works)
            for _ in range(120):
                house, other = chance.randrange(works.many + 1), chance.randrange(works.many)
                at = chance.randrange(4)
                line, deed = chance.choice([
                    (f"give n 0 {at}", ("give", (0, at))), (f"work n {house}", ("do", house)),
                    (f"pass n {house}", ("pass", house)),
                    (f"post n {house} {other}", ("post", house, other)),
                    (f"post n {other} {house}", ("post", other, house)),
                    (f"bring n {at}", ("bring", at)), (f"bring n {at}", ("bring", at)), (f"lose n {at}", ("lose", at)),
                    (f"twice n {at}", ("double", at)), ("trip n", None),
                ])
                if deed is None:
                    self.assertEqual(desk.tell(line), str(round_trip(net)))
                else:
                    self.assertEqual(desk.tell(line), self.did(net, deed))
                seen.add((line.split(" ")[0], "trip" if deed is None else desk.tell("bag n") == "0"))
                self.check_net(desk, net)
            self.assertEqual(desk.tell("settle n 400"), str(settle(net, 400)))
            self.check_net(desk, net)
        self.assertGreater(len(seen), 10)

    def did(self, net, deed):
        try:
            net.deed(deed)
        except NoDeed:
            return "no"
        return "ok"

    def check_net(self, desk, net):
        glass = net.glass()
        self.assertEqual(desk.tell("bag n"), str(len(net.bag())))
        flags = says(net.works, net.house(0).state())
        self.assertEqual(desk.tell("says n"), " ".join(word for word, flag in zip(WATCHERS, flags) if flag) or "none")
        self.assertEqual(desk.tell("sums n"), " ".join(broken(net.works, glass)) or "none")
        rows = drawn(net.works, (tuple(state[0] for state in glass[0]), ())).split("\n")[:-1]
        rows += [f"{way[0]}>{way[1]}: {len(way[2])}" for way in glass[1]]
        self.assertEqual(desk.tell("shape n"), "".join(row + "|" for row in rows))


class LineTest(unittest.TestCase):
    def test_each_form(self):
        for line in LINES:
            self.assertNotIn(told(full(), line), (NoLine, NoName), line)

    def test_no_string(self):
        for thing in odd_things() + [b"source a", ["source a"], ("source", "a"), None, 0, "", " ", "|", "a"]:
            self.assertEqual(told(full(), thing), NoLine, repr(thing)[:60])

    def test_each_word_left_out_doubled_otherwise(self):
        for line in LINES:
            words = line.split(" ")
            works = words[0] == "works"
            wrong = [line + "\n", "\n" + line, line.replace(" ", "\n", 1), line.upper(), line[1:], " " + line, words[0], words[0] + " "]
            wrong += ["x" + line, line.replace(" ", "  ", 1), line.replace(" ", ",", 1), line.replace(" ", "|", 1)]
            if not works:
                wrong += [line + " ", line + " x", line + " 0", line + " |", line.replace(" ", "  ")]
            if words[0] == "run":
                wrong += [line + " 0 0 0", line + " 0 0 ", "run", "run r", "run r a 0", "run a 0 1 2", "run r a x 0", "run r a 0 x"]
            for at in range(len(words) if not works else 2):
                wrong.append(" ".join(words[:at] + words[at + 1:]))
                wrong.append(" ".join(words[:at + 1] + words[at:]))
            for text in wrong:
                if (text.split(" ")[0] == "works" and works) or text in LINES:
                    continue
                desk = full()
                before = state_of(desk)
                self.assertEqual(told(desk, text), NoLine, (line, text))
                self.assertEqual(state_of(desk), before)

    def test_texts(self):
        for line in ("works", "works ", "works a", "works a ", "works  a x", "works A x", "works a1 x", "works abcdefghi x", "works 1 x"):
            self.assertEqual(told(Desk(), line), NoLine, line)
        for line in ("works a  ", "works a x", "works a   houses 2|kind|", "works a |", "works works works a"):
            self.assertEqual(told(Desk(), line), BadText, line)

    def test_names(self):
        desk = Desk()
        for name in ("a", "z", "works", "run", "abcdefgh", "zzzzzzzz"):
            self.assertEqual(desk.tell(f"works {name} houses 2|kind 1:0|"), "ok")
            self.assertEqual(desk.tell(f"run {name} {name} 0 1"), "ok")
            self.assertEqual(desk.tell(f"net {name} {name}"), "ok")
        for name in ("", "A", "aB", "a1", "1", "abcdefghi", "a_b", "a-b", "a|", "{a}", "a.b", "a,", "~", "`", "a:"):
            for line in LINES:
                words = line.split(" ")
                places = (1, 2) if words[0] in ("run", "net") else (1,)
                for at in places:
                    text = " ".join(words[:at] + [name] + words[at + 1:])
                    self.assertEqual(told(full(), text), NoLine, text)

    def test_numbers(self):
        # By form alone up to nine figures; what they tell then is what the functions say.
        for line in LINES:
            words = line.split(" ")
            for at in [place for place, word in enumerate(words) if word.isdigit() and words[0] != "works"]:
                for number in ("00", "01", "-1", "+1", "1.0", "1_0", "x", "1000000000", "0" * 9, "9" * 30, "1x", "0x1", "~"):
                    text = " ".join(words[:at] + [number] + words[at + 1:])
                    self.assertEqual(told(full(), text), NoLine, text)
                text = " ".join(words[:at] + ["999999999"] + words[at + 1:])
                self.assertNotIn(told(full(), text), (NoLine, NoName), text)

    def test_no_name(self):
        for line in LINES:
            words = line.split(" ")
            if words[0] == "works":
                continue
            place = 2 if words[0] in ("run", "net") else 1
            for name in ("x", "zzzzzzzz", "works"):
                desk = full()
                before = state_of(desk)
                with self.assertRaises(NoName) as caught:
                    desk.tell(" ".join(words[:place] + [name] + words[place + 1:]))
                self.assertEqual(caught.exception.name, name)
                self.assertEqual(state_of(desk), before)
            # Of its own sort: what is kept as something else is no help.
            for name in [name for name in ("a", "r", "n") if name != words[place]]:
                with self.assertRaises(NoName) as caught:
                    full().tell(" ".join(words[:place] + [name] + words[place + 1:]))
                self.assertEqual(caught.exception.name, name)

    def test_errors_in_order(self):
        desk = full()
        for line, error in [
            ("many x 9 99", NoName), ("many x 9 099", NoLine), ("spread x 9 9 9", NoName), ("spread a 9 9 9", NoHouse),
            ("spread a 0 9 9", NoTask), ("run x x 9 9", NoName), ("run x a 9 9", NoGiven), ("run x x 9", NoLine),
            ("do x 9", NoName),
            ("say x 9 y", NoName), ("say x 9", NoLine), ("say r 9 y", NoEvent), ("settle x 2000", NoName),
            ("settle n 2000", NoNumber),
            ("fall x 9 9", NoName), ("fall n 9 9", NoHouse), ("give x 9 9", NoName), ("vector x 9", NoName),
            ("ahead x 9 9", NoName),
            ("works a x", BadText), ("net x y", NoName), ("net y", NoLine),
        ]:
            self.assertEqual(told(desk, line), error, line)

    def test_names_of_their_own(self):
        desk = desk_of(TWO, "run a a 0 1", "net a a")
        desk.tell("give a 0 0")
        desk.tell("do a 0")
        self.assertEqual([desk.tell(line) for line in ("source a", "bags a", "shape a")],
                         ["houses 2|kind 1:0|", "0:|1:|0>1: 0.0|", "0: 0.0|1:|"])

    def test_a_name_taken_anew(self):
        desk = full()
        desk.tell("do r 0")
        desk.tell("give n 0 1")
        self.assertEqual(desk.tell("works a houses 1|kind|"), "ok")
        self.assertEqual(desk.tell("source a"), "houses 1|kind|")
        # What was made of the elder works stays as it is.
        self.assertEqual((desk.tell("bags r"), desk.tell("shape n")), ("0:|1:|0>1: 0.0|", "0: 0.1|1:|"))
        self.assertEqual((desk.tell("run r a 0 5"), desk.tell("bags r")), ("ok", "0: 0.5|"))
        self.assertEqual((desk.tell("net n a"), desk.tell("shape n")), ("ok", "0:|"))

    def test_desks_are_apart(self):
        one, other = full(), full()
        one.tell("do r 0")
        one.tell("give n 0 0")
        self.assertEqual(state_of(other), state_of(full()))
        self.assertFalse(one == other)
        self.assertTrue(one == one)

    def test_refusals_change_nothing(self):
        chance = random.Random(3)
        desk = full()
        for line in ("do r 0", "give n 0 2", "work n 0", "post n 0 1"):
            desk.tell(line)
        before = state_of(desk)
        for _ in range(300):
            words = chance.choice(LINES).split(" ")
            words[chance.randrange(len(words))] = chance.choice(["", "x", "99999", "r", "n", "a", "0", "-", "do", "tree"])
            line = " ".join(words)
            found = told(desk, line)
            if isinstance(found, str):
                desk = full()
                for line in ("do r 0", "give n 0 2", "work n 0", "post n 0 1"):
                    desk.tell(line)
            else:
                self.assertEqual(state_of(desk), before, line)

    def test_other_works(self):
        desk = desk_of("works b " + in_one_line(works_text(BUSY)), "works t " + in_one_line(works_text(THREE)), "run b b 1 1", "net b b")
        self.assertEqual(desk.tell("bags b"), "0: 1.1|1:|2:|3:|")
        self.assertEqual(desk.tell("spread b 3 1 1"), " ".join(str(number) for number in tasks_of(BUSY, 3, (1, 1))))
        self.assertEqual(desk.tell("shape b"), "0:|1:|2:|3:|")
        self.assertEqual(desk.tell("spread t 2 0 2"), " ".join(str(number) for number in tasks_of(THREE, 2, (0, 2))))
        self.assertEqual(Works(2, (((1, 0),),)), WORKS)


if __name__ == "__main__":
    unittest.main()
