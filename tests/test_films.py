"""Promises [11.2] and [11.3]: reels, and pictures of rows."""

import random
import unittest

from knownquiet.errors import NoMoment, NoNumber, NoStanding
from knownquiet.films import Reel, drawn, drawn_causes, drawn_record
from knownquiet.records import Record, standing_at
from knownquiet.works import first_standing
from tests.odd import odd_numbers, odd_things
from tests.told import EACH, ONE, SIX, THREE, WORKS, Told, some_events, some_given

RUN = (("do", 0), ("say", 0, "ring"), ("hear", 1, 0), ("do", 1), ("say", 0, "tree"))
GIVEN = ((0, 1),)
RECORD = Record(WORKS, GIVEN, RUN)


def told(reel):
    return (reel.stands(), reel.standing(), reel.kept(), reel.worked())


def says(many):
    return Record(WORKS, (), (("say", 0, "tree"),) * many)


class PlainReel:
    """An account of a reel, of its own."""

    def __init__(self, record, every):
        self.record, self.every, self.at, self.found, self.steps = record, every, 0, {0}, 0

    def seek(self, at):
        begin = max([number for number in self.found | {self.at} if number <= at])
        self.steps = at - begin
        self.found |= {number for number in range(begin + 1, at + 1) if number % self.every == 0}
        self.at = at

    def told(self):
        return (self.at, standing_at(self.record, self.at), tuple(sorted(self.found)), self.steps)


class ReelTest(unittest.TestCase):
    def test_begun(self):
        for every in (1, 2, 500):
            reel = Reel(RECORD, every)
            self.assertEqual(told(reel), (0, first_standing(WORKS, GIVEN), (0,), 0))
            self.assertEqual(reel.many_events(), 5)

    def test_no_number(self):
        for thing in odd_numbers() + [0, 501, -1, 10 ** 19]:
            with self.assertRaises(NoNumber, msg=repr(thing)[:60]):
                Reel(RECORD, thing)

    def test_seeks(self):
        reel = Reel(says(20), 4)
        self.assertEqual(reel.many_events(), 20)
        two, six = (0, 4, 8), (0, 4, 8, 12, 16, 20)
        for at, kept, worked in [
            (10, two, 10), (11, two, 1), (11, two, 0), (9, two, 1), (8, two, 0), (7, two, 3), (20, six, 12), (3, six, 3),
            (15, six, 3), (14, six, 2), (0, six, 0), (2, six, 2), (3, six, 1),
        ]:
            self.assertIsNone(reel.seek(at))
            self.assertEqual((reel.stands(), reel.kept(), reel.worked()), (at, kept, worked))

    def test_to_a_multiple(self):
        reel = Reel(says(9), 3)
        reel.seek(3)
        self.assertEqual((reel.kept(), reel.worked()), ((0, 3), 3))
        reel.seek(5)
        self.assertEqual((reel.kept(), reel.worked()), ((0, 3), 2))
        # From where it stands, which is nearer than the kept one.
        reel.seek(8)
        self.assertEqual((reel.kept(), reel.worked()), ((0, 3, 6), 3))
        reel.seek(7)
        self.assertEqual((reel.kept(), reel.worked()), ((0, 3, 6), 1))
        reel.seek(9)
        self.assertEqual((reel.kept(), reel.worked()), ((0, 3, 6, 9), 2))

    def test_each_every(self):
        record = says(1100)
        for every in (1, 2, 3, 7, 100, 499, 500):
            reel = Reel(record, every)
            reel.seek(1100)
            self.assertEqual(reel.kept(), tuple(range(0, 1101, every)))
            self.assertEqual(reel.worked(), 1100)

    def test_no_moment(self):
        reel = Reel(RECORD, 2)
        reel.seek(3)
        before = told(reel)
        for thing in odd_numbers() + [6, -1, 10 ** 19]:
            with self.assertRaises(NoMoment, msg=repr(thing)[:60]):
                reel.seek(thing)
            self.assertEqual(told(reel), before)

    def test_ends_where_events_can_be_done(self):
        record = Record(WORKS, GIVEN, (("do", 0), ("say", 0, "tree"), ("do", 0), ("hear", 1, 0)))
        reel = Reel(record, 1)
        self.assertEqual(reel.many_events(), 2)
        reel.seek(2)
        self.assertEqual(reel.standing(), (((), ()), ((0, 1, ((0, 0),)),)))
        with self.assertRaises(NoMoment):
            reel.seek(3)
        empty = Reel(Record(WORKS, GIVEN, ()), 5)
        self.assertEqual(empty.many_events(), 0)
        empty.seek(0)
        self.assertEqual(told(empty), (0, first_standing(WORKS, GIVEN), (0,), 0))
        with self.assertRaises(NoMoment):
            empty.seek(1)

    def test_copies_go_on_apart(self):
        reel = Reel(RECORD, 2)
        reel.seek(3)
        before = told(reel)
        other = reel.copy()
        self.assertIsInstance(other, Reel)
        self.assertEqual((told(other), other.many_events()), (before, 5))
        other.seek(5)
        self.assertEqual(told(reel), before)
        self.assertEqual((other.kept(), other.worked()), ((0, 2, 4), 2))
        late = told(other)
        reel.seek(0)
        self.assertEqual(told(other), late)
        self.assertEqual(reel.kept(), (0, 2))

    def test_fact_of_seeking(self):
        chance = random.Random(1)
        for number in range(40):
            works = EACH[number % 5]
            given = some_given(works, chance)
            record = Record(works, given, some_events(works, given, chance, chance.randint(0, 60), chance.choice((0, 30))))
            every = chance.randint(1, 12)
            reel, plain, furthest = Reel(record, every), PlainReel(record, every), 0
            for _ in range(25):
                at = chance.randint(0, reel.many_events())
                reel.seek(at)
                plain.seek(at)
                self.assertEqual(told(reel), plain.told())
                if at <= furthest:
                    self.assertLess(reel.worked(), every)
                furthest = max(furthest, at)
                if chance.randrange(5) == 0:
                    reel = reel.copy()

    def test_long(self):
        chance = random.Random(2)
        record = Record(THREE, ((0, 12),) * 20, some_events(THREE, ((0, 12),) * 20, chance, 2000, 0))
        reel = Reel(record, 100)
        for at in (2000, 1999, 50, 1250, 0):
            reel.seek(at)
            self.assertEqual(reel.standing(), standing_at(record, at))
        self.assertEqual(reel.kept(), tuple(range(0, 2001, 100)))

    def test_equal_to_itself_alone(self):
        reel = Reel(RECORD, 2)
        self.assertTrue(reel == reel)
        for thing in odd_things() + [RECORD]:
            self.assertFalse(reel == thing)


class DrawnTest(unittest.TestCase):
    def test_by_hand(self):
        self.assertEqual(drawn(WORKS, (((), ()), ())), "0:\n1:\n")
        self.assertEqual(drawn(WORKS, (((), ((0, 2), (0, 12))), ())), "0:\n1: 0.2 0.12\n")
        standing = (((), ((0, 2),)), ((0, 1, ((0, 0), (0, 3))), (1, 1, ((0, 5),))))
        self.assertEqual(drawn(WORKS, standing), "0:\n1: 0.2\n0>1: 0.0 0.3\n1>1: 0.5\n")
        standing = (((5 % 3, 1),) * 2, (), ()), ((2, 0, ((2, 12),)),)
        self.assertEqual(drawn(THREE, standing), "0: 2.1 2.1\n1:\n2:\n2>0: 2.12\n")

    def test_by_chance(self):
        chance = random.Random(3)
        for number in range(60):
            works = EACH[number % 5]
            given = some_given(works, chance)
            record = Record(works, given, some_events(works, given, chance, 25, 0))
            standing = standing_at(record, chance.randint(0, 25))
            rows = [f"{house}:" for house in range(works.many)] + [f"{way[0]}>{way[1]}:" for way in standing[1]]
            bags = list(standing[0]) + [way[2] for way in standing[1]]
            text = "".join(row + "".join(f" {kind}.{fuel}" for kind, fuel in bag) + "\n" for row, bag in zip(rows, bags))
            self.assertEqual(drawn(works, standing), text)

    def test_no_standing(self):
        wrong = [
            ((), ()), (((),), ()), (((), (), ()), ()), [((), ()), ()], (((), ()), []), (((), ()), ((0, 1, ()),)),
            ((((1, 0),), ()), ()), (((), ()), ((0, 2, ((0, 0),)),)), (((), ()), ((1, 0, ((0, 0),)), (0, 1, ((0, 0),)))),
        ]
        for thing in wrong + odd_things():
            with self.assertRaises(NoStanding, msg=repr(thing)[:60]):
                drawn(WORKS, thing)


class DrawnRecordTest(unittest.TestCase):
    def test_each_sign(self):
        self.assertEqual(drawn_record(RECORD), "d!..s\n..hd.\n")
        events = RUN + (("hear", 1, 0), ("do", 0), ("say", 1, "tree"), ("hear", 0, 1), ("say", 0, "coin"))
        self.assertEqual(drawn_record(Record(WORKS, GIVEN, events)), "d!..s.?.??\n..hd.x.?..\n")
        self.assertEqual(drawn_record(Record(WORKS, GIVEN, (("do", 1), ("say", 0, "tree")))), ".?\nx.\n")
        self.assertEqual(drawn_record(Record(WORKS, GIVEN, (("say", 1, "coin"), ("hear", 0, 0)))), ".x\n!.\n")

    def test_none(self):
        self.assertEqual(drawn_record(Record(WORKS, GIVEN, ())), "\n\n")
        self.assertEqual(drawn_record(Record(SIX, (), ())), "\n" * 6)
        self.assertEqual(drawn_record(Record(ONE, (), (("say", 0, "tree"),))), "s\n")

    def test_by_chance(self):
        chance = random.Random(4)
        seen = set()
        for number in range(100):
            works = EACH[number % 5]
            given = some_given(works, chance)
            events = some_events(works, given, chance, chance.randint(0, 30), chance.choice((0, 15)))
            account = Told(works, given, events)
            rows = [""] * works.many
            for index, event in enumerate(events):
                sign = event[0][0]
                if index in account.lies:
                    sign = "!"
                if index >= account.many:
                    sign = "x" if index == account.many else "?"
                seen.add(sign)
                rows = [row + (sign if house == event[1] else ".") for house, row in enumerate(rows)]
            self.assertEqual(drawn_record(Record(works, given, events)), "".join(row + "\n" for row in rows))
        self.assertEqual(seen, set("dhs!x?"))


class DrawnCausesTest(unittest.TestCase):
    def test_by_hand(self):
        self.assertEqual(drawn_causes(RECORD, 0), "*>..>\n..>>.\n")
        self.assertEqual(drawn_causes(RECORD, 1), "<*..>\n..oo.\n")
        self.assertEqual(drawn_causes(RECORD, 2), "<o..o\n..*>.\n")
        self.assertEqual(drawn_causes(RECORD, 4), "<<..*\n..oo.\n")

    def test_by_chance(self):
        chance = random.Random(5)
        for number in range(60):
            works = EACH[number % 5]
            given = some_given(works, chance)
            events = some_events(works, given, chance, chance.randint(1, 30), chance.choice((0, 25)))
            record, account = Record(works, given, events), Told(works, given, events)
            for at in range(account.many):
                rows = [""] * works.many
                for index in range(account.many):
                    sign = "<" if index in account.all[at] else ">" if at in account.all[index] else "*" if index == at else "o"
                    rows = [row + (sign if house == events[index][1] else ".") for house, row in enumerate(rows)]
                found = drawn_causes(record, at)
                self.assertEqual(found, "".join(row + "\n" for row in rows))
                for row in found.split("\n")[:-1]:
                    self.assertNotIn("<", row[at:])
                    self.assertNotIn(">", row[:at + 1])

    def test_no_moment(self):
        for thing in odd_numbers() + [5, -1, 10 ** 19]:
            with self.assertRaises(NoMoment, msg=repr(thing)[:60]):
                drawn_causes(RECORD, thing)
        record = Record(WORKS, GIVEN, (("do", 0), ("do", 0), ("hear", 1, 0)))
        self.assertEqual(drawn_causes(record, 0), "*\n.\n")
        for at in (1, 2, 3):
            with self.assertRaises(NoMoment):
                drawn_causes(record, at)
        with self.assertRaises(NoMoment):
            drawn_causes(Record(WORKS, GIVEN, ()), 0)


if __name__ == "__main__":
    unittest.main()
