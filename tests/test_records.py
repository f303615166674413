"""Promise [8.1]: records of what strangers tell."""

import random
import unittest

from knownquiet.errors import BadRecord, NoGiven, NoMoment
from knownquiet.records import Record, first_wrong, lies_in, quiet_from, standing_at
from knownquiet.works import Works, first_standing, is_quiet, is_standing
from tests.odd import nested, odd_numbers, odd_things
from tests.told import EACH, ONE, THREE, WORKS, Told, some_events, some_given

RUN = (("do", 0), ("say", 0, "ring"), ("hear", 1, 0), ("do", 1), ("say", 0, "tree"))
GIVEN = ((0, 1),)
SAY = ("say", 0, "coin")


def index_of(works, given, events):
    """The index that BadRecord tells, or the word that it is not raised."""
    try:
        Record(works, given, events)
    except BadRecord as error:
        return error.index
    return "fine"


class FormTest(unittest.TestCase):
    def test_attributes_are_kept(self):
        record = Record(WORKS, GIVEN, RUN)
        self.assertEqual((record.ruled, record.given, record.events), (WORKS, GIVEN, RUN))
        empty = Record(THREE, (), ())
        self.assertEqual((empty.ruled, empty.given, empty.events), (THREE, (), ()))

    def test_how_many(self):
        self.assertEqual(index_of(WORKS, GIVEN, ()), "fine")
        self.assertEqual(index_of(WORKS, GIVEN, (SAY,) * 2000), "fine")
        self.assertEqual(index_of(WORKS, GIVEN, (SAY,) * 2001), -1)
        self.assertEqual(index_of(WORKS, GIVEN, (None,) * 2001), -1)
        self.assertEqual(index_of(WORKS, GIVEN, (SAY,) * 1999 + (None,)), 1999)
        self.assertEqual(index_of(WORKS, GIVEN, (SAY,) * 1999 + (("do", 1),)), "fine")

    def test_no_tuple(self):
        for thing in odd_things():
            if not isinstance(thing, tuple) or len(thing) > 2000:
                self.assertEqual(index_of(WORKS, GIVEN, thing), -1, repr(thing)[:60])
        for thing in (list(RUN), "do", b"", None, 0, {}, {"do": 0}, range(0)):
            self.assertEqual(index_of(WORKS, GIVEN, thing), -1)

    def test_each_part_otherwise(self):
        wrong = [
            (), ("do",), ("do", 2), ("do", -1), ("do", True), ("do", False), ("do", None), ("do", "0"), ("do", (0,)),
            ("do", 0, 0), ["do", 0], ("Do", 0), ("do ", 0), (b"do", 0), ("done", 0), (0, "do"), (("do", 0),), "do",
            ("hear",), ("hear", 0), ("hear", 0, 2), ("hear", 2, 0), ("hear", 0, True), ("hear", True, 0), ("hear", 0, -1),
            ("hear", 0, None), ("hear", 0, 1, 0), ["hear", 0, 1], ("hears", 0, 1), ("hear", 0, "tree"), ("hear", 0, (1,)),
            ("say",), ("say", 0), ("say", 0, "trees"), ("say", 0, ""), ("say", 0, "Tree"), ("say", 0, b"tree"),
            ("say", 0, None), ("say", 0, 0), ("say", 0, ("tree",)), ("say", 2, "tree"), ("say", True, "tree"),
            ("say", "tree", 0), ("say", 0, "tree", "ring"), ["say", 0, "tree"], ("says", 0, "tree"), ("say", 0, "mark"),
            ("pass", 0), ("do", 10 ** 19), ("hear", 0, 10 ** 19), None, 0, True, ((), 0), (None, 0), (("do",), 0),
        ]
        for thing in wrong + odd_things():
            self.assertEqual(index_of(WORKS, GIVEN, (thing,)), 0, repr(thing)[:60])
            self.assertEqual(index_of(WORKS, GIVEN, RUN + (thing, None)), 5)
        for thing in odd_things():
            self.assertEqual(index_of(WORKS, GIVEN, RUN + ((thing, 0),)), 5)
            self.assertEqual(index_of(WORKS, GIVEN, RUN + (("say", 0, thing),)), 5)
            self.assertEqual(index_of(WORKS, GIVEN, RUN + (("do", thing),)), 5)
            self.assertEqual(index_of(WORKS, GIVEN, RUN + (("hear", thing, 0),)), 5)
            self.assertEqual(index_of(WORKS, GIVEN, RUN + (("hear", 0, thing),)), 5)
            self.assertEqual(index_of(WORKS, GIVEN, RUN + (("say", thing, "tree"),)), 5)
        for wrap in (lambda inner: (inner,), lambda inner: [inner], lambda inner: (inner, inner[:0])):
            self.assertEqual(index_of(WORKS, GIVEN, (nested(39, (), wrap),)), 0)

    def test_houses_of_other_works(self):
        self.assertEqual(index_of(THREE, (), (("hear", 2, 2), ("say", 2, "coin"), ("do", 2))), "fine")
        self.assertEqual(index_of(WORKS, (), (("hear", 1, 1), ("say", 1, "coin"), ("do", 2))), 2)
        self.assertEqual(index_of(ONE, (), (("hear", 0, 0), ("hear", 0, 1))), 1)

    def test_given_first(self):
        for thing in odd_things() + [[], ((0, 0),) * 21, ((1, 0),), (None,), [(0, 1)]]:
            if thing != ((0, 0),):
                for events in (RUN, (None,), None):
                    with self.assertRaises(NoGiven, msg=repr(thing)[:60]):
                        Record(WORKS, thing, events)
        Record(WORKS, ((0, 12),) * 20, ())

    def test_equal(self):
        record = Record(WORKS, GIVEN, RUN)
        self.assertTrue(record == Record(Works(2, (((1, 0),),)), ((0, 1),), RUN[:2] + RUN[2:]))
        self.assertFalse(record != Record(WORKS, GIVEN, RUN))
        for other in (
            Record(WORKS, GIVEN, RUN[:4]), Record(WORKS, (), RUN), Record(WORKS, ((0, 2),), RUN), Record(THREE, GIVEN, RUN),
            Record(WORKS, GIVEN, RUN[:4] + (SAY,)), Record(Works(2, (((0, 0),),)), GIVEN, RUN),
        ):
            self.assertFalse(record == other)
            self.assertTrue(record != other)
        for thing in odd_things() + [(WORKS, GIVEN, RUN), RUN, GIVEN, record.ruled]:
            self.assertFalse(record == thing)
            self.assertFalse(thing == record)
            self.assertTrue(record != thing)


class TellTest(unittest.TestCase):
    def test_example(self):
        record = Record(WORKS, GIVEN, RUN)
        self.assertEqual(first_wrong(record), (1, "lie"))
        self.assertEqual(quiet_from(record), 4)
        self.assertEqual(lies_in(record), (1,))
        self.assertEqual(standing_at(record, 0), ((((0, 1),), ()), ()))
        self.assertEqual(standing_at(record, 1), (((), ()), ((0, 1, ((0, 0),)),)))
        self.assertEqual(standing_at(record, 2), standing_at(record, 1))
        self.assertEqual(standing_at(record, 3), (((), ((0, 0),)), ()))
        self.assertEqual(standing_at(record, 4), (((), ()), ()))
        self.assertEqual(standing_at(record, 5), (((), ()), ()))

    def test_words(self):
        for events, wrong in [
            ((), None), ((("do", 0),), None), ((("do", 1),), (0, "idle")), ((("hear", 1, 0),), (0, "empty")),
            ((SAY,), (0, "lie")), ((("do", 0), ("do", 0)), (1, "idle")), ((("do", 0), ("hear", 0, 1)), (1, "empty")),
            ((("do", 0), ("hear", 1, 1)), (1, "empty")), ((("do", 0), ("hear", 1, 0), ("hear", 1, 0)), (2, "empty")),
            ((SAY, ("do", 1)), (0, "lie")), ((("do", 1), SAY), (0, "idle")), ((("do", 0), ("say", 1, "tree")), (1, "lie")),
            ((("do", 0), ("hear", 1, 0), ("say", 1, "ring")), (2, "lie")), (RUN[:1] + RUN[2:4] + (SAY,), None),
            (RUN[:1] + RUN[2:4] + (SAY, ("do", 0)), (4, "idle")), (RUN + (("hear", 0, 0),), (1, "lie")),
        ]:
            self.assertEqual(first_wrong(Record(WORKS, GIVEN, events)), wrong, events)

    def test_without_tasks(self):
        record = Record(WORKS, (), ())
        self.assertEqual((first_wrong(record), quiet_from(record), lies_in(record)), (None, 0, ()))
        self.assertEqual(standing_at(record, 0), (((), ()), ()))
        record = Record(WORKS, (), (SAY, ("say", 1, "tree")))
        self.assertEqual((first_wrong(record), quiet_from(record), lies_in(record)), (None, 0, ()))
        self.assertEqual(first_wrong(Record(WORKS, (), (SAY, ("do", 0)))), (1, "idle"))

    def test_without_events(self):
        record = Record(WORKS, GIVEN, ())
        self.assertEqual((first_wrong(record), quiet_from(record), lies_in(record)), (None, None, ()))
        self.assertEqual(standing_at(record, 0), first_standing(WORKS, GIVEN))

    def test_ends_at_the_first_idle_or_empty(self):
        for wrong in (("do", 1), ("hear", 0, 0), ("hear", 0, 1)):
            events = (SAY, ("do", 0), wrong, ("hear", 1, 0), ("do", 1), SAY, ("say", 1, "tree"))
            record = Record(WORKS, GIVEN, events)
            self.assertEqual((first_wrong(record), quiet_from(record), lies_in(record)), ((0, "lie"), None, (0,)))
            standing_at(record, 2)
            for at in (3, 4, 7):
                with self.assertRaises(NoMoment):
                    standing_at(record, at)

    def test_quiet_behind_the_last(self):
        events = (("do", 0), ("hear", 1, 0), ("do", 1))
        self.assertEqual(quiet_from(Record(WORKS, GIVEN, events)), 3)
        self.assertIsNone(quiet_from(Record(WORKS, GIVEN, events[:2])))
        self.assertEqual(quiet_from(Record(WORKS, GIVEN, events + (("do", 1),))), 3)

    def test_by_chance(self):
        chance = random.Random(1)
        words, calm = set(), 0
        for works in EACH:
            for _ in range(40):
                given = some_given(works, chance)
                events = some_events(works, given, chance, chance.randint(0, 40), chance.choice((0, 15, 40)))
                record, told = Record(works, given, events), Told(works, given, events)
                self.assertEqual(first_wrong(record), told.wrong)
                self.assertEqual(quiet_from(record), told.quiet)
                self.assertEqual(lies_in(record), tuple(told.lies))
                for at in range(told.many + 1):
                    standing = standing_at(record, at)
                    self.assertEqual(standing, told.standings[at])
                    self.assertTrue(is_standing(works, standing))
                with self.assertRaises(NoMoment):
                    standing_at(record, told.many + 1)
                words.add(told.wrong and told.wrong[1])
                calm += told.quiet is not None and told.quiet > 0
        self.assertEqual(words, {None, "idle", "empty", "lie"})
        self.assertGreater(calm, 20)

    def test_long_records(self):
        chance = random.Random(2)
        works, given = THREE, ((0, 12),) * 20
        events = some_events(works, given, chance, 2000, 0)
        record, told = Record(works, given, events), Told(works, given, events)
        self.assertEqual((first_wrong(record), lies_in(record)), (told.wrong, tuple(told.lies)))
        for at in (0, 1, 999, 1999, 2000):
            self.assertEqual(standing_at(record, at), told.standings[at])
        self.assertFalse(is_quiet(works, standing_at(record, 2000)))

    def test_no_moment(self):
        record = Record(WORKS, GIVEN, RUN)
        for thing in odd_numbers() + [6, 10 ** 19, -1]:
            with self.assertRaises(NoMoment, msg=repr(thing)[:60]):
                standing_at(record, thing)
        with self.assertRaises(NoMoment):
            standing_at(Record(WORKS, GIVEN, ()), 1)

    def test_equal_calls(self):
        record = Record(THREE, ((0, 2), (1, 1)), (("do", 0), SAY, ("hear", 1, 0), ("do", 0), ("do", 2)))
        events = record.events
        for _ in range(3):
            self.assertEqual(first_wrong(record), (1, "lie"))
            self.assertEqual(lies_in(record), (1,))
            self.assertEqual(standing_at(record, 4)[0], ((), ((1, 1),), ()))
        self.assertEqual(record, Record(THREE, ((0, 2), (1, 1)), events))


if __name__ == "__main__":
    unittest.main()
