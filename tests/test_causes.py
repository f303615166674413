"""Promises [8.2] and [8.3]: what causes what, cuts, orders."""

import itertools
import random
import unittest

from knownquiet.causes import (
    causes, is_ahead, is_cut, is_order, least_quiet, many_cuts, rearranged, standing_of_cut, vectors,
)
from knownquiet.errors import NoCut, NoMoment, NoOrder, TooMany
from knownquiet.records import Record, first_wrong, quiet_from, standing_at
from knownquiet.works import Works, first_standing, is_quiet
from tests.odd import nested, odd_numbers, odd_things
from tests.told import EACH, ONE, SIX, THREE, WORKS, Told, some_events, some_given

RUN = (("do", 0), ("say", 0, "ring"), ("hear", 1, 0), ("do", 1), ("say", 0, "tree"))
GIVEN = ((0, 1),)
RECORD = Record(WORKS, GIVEN, RUN)


def records(seed, many, longest):
    """Pairs of a record and an account of it, by chance."""
    chance = random.Random(seed)
    for number in range(many):
        works = EACH[number % len(EACH)]
        given = some_given(works, chance)
        events = some_events(works, given, chance, chance.randint(0, longest), chance.choice((0, 0, 20)))
        yield Record(works, given, events), Told(works, given, events), chance


def says(*houses):
    return tuple(("say", house, "ring") for house in houses)


class CausesTest(unittest.TestCase):
    def test_example(self):
        self.assertEqual(causes(RECORD), ((), (0,), (0,), (2,), (1,)))
        self.assertEqual(vectors(RECORD), ((1, 0), (2, 0), (1, 1), (1, 2), (3, 0)))

    def test_none(self):
        for record in (Record(WORKS, GIVEN, ()), Record(WORKS, GIVEN, (("do", 1),)), Record(ONE, (), (("hear", 0, 0),))):
            self.assertEqual((causes(record), vectors(record)), ((), ()))

    def test_a_letter_to_itself(self):
        # Two letters of one do: the first is heard right behind it, so that it causes the hearing twice over.
        events = (("do", 0), ("hear", 0, 0), ("hear", 0, 0), ("do", 0), ("hear", 0, 0))
        record = Record(ONE, ((0, 2),), events)
        self.assertEqual(causes(record), ((), (0,), (0, 1), (2,), (3,)))
        self.assertEqual(vectors(record), ((1,), (2,), (3,), (4,), (5,)))

    def test_letters_in_order(self):
        works = Works(2, (((1, 0), (1, 0)),))
        events = (("do", 0), ("do", 0)) + (("hear", 1, 0),) * 4
        self.assertEqual(causes(Record(works, ((0, 1), (0, 1)), events)), ((), (0,), (0,), (0, 2), (1, 3), (1, 4)))

    def test_only_what_can_be_done(self):
        events = (("do", 0), ("hear", 1, 0), ("say", 1, "coin"), ("do", 0), ("do", 1))
        record = Record(WORKS, GIVEN, events)
        self.assertEqual(first_wrong(record), (2, "lie"))
        self.assertEqual(causes(record), ((), (0,), (1,)))
        self.assertEqual(vectors(record), ((1, 0), (1, 1), (1, 2)))

    def test_by_chance(self):
        for record, told, _ in records(3, 120, 40):
            self.assertEqual(causes(record), tuple(told.direct))
            self.assertEqual(vectors(record), tuple(told.vector(at) for at in range(told.many)))
            for lot in causes(record):
                self.assertEqual(list(lot), sorted(set(lot)))

    def test_is_ahead(self):
        for record, told, _ in records(4, 60, 30):
            counts = vectors(record)
            for one, other in itertools.product(range(told.many), repeat=2):
                found = is_ahead(record, one, other)
                self.assertIs(found, one in told.all[other])
                if one != other:
                    fact = all(here <= there for here, there in zip(counts[one], counts[other]))
                    self.assertIs(found, fact)
                else:
                    self.assertIs(found, False)

    def test_no_moment(self):
        self.assertIs(is_ahead(RECORD, 0, 4), True)
        for thing in odd_numbers() + [5, 6, -1, 10 ** 19]:
            for pair in ((thing, 0), (0, thing), (thing, thing)):
                with self.assertRaises(NoMoment, msg=repr(thing)[:60]):
                    is_ahead(RECORD, *pair)
        record = Record(WORKS, GIVEN, (("do", 0), ("do", 0), ("hear", 1, 0)))
        self.assertIs(is_ahead(record, 0, 0), False)
        for pair in ((1, 0), (0, 1), (1, 1), (2, 2), (0, 2)):
            with self.assertRaises(NoMoment):
                is_ahead(record, *pair)

    def test_long_records(self):
        chance = random.Random(5)
        events = some_events(THREE, ((0, 12),) * 20, chance, 2000, 0)
        record = Record(THREE, ((0, 12),) * 20, events)
        counts = vectors(record)
        self.assertEqual(len(causes(record)), 2000)
        self.assertEqual(sum(counts[-1]) <= 2000, True)
        for house in range(3):
            mine = [at for at in range(2000) if events[at][1] == house]
            self.assertEqual([counts[at][house] for at in mine], list(range(1, len(mine) + 1)))


class CutTest(unittest.TestCase):
    def test_example(self):
        could = [(0, 0), (1, 0), (2, 0), (3, 0), (1, 1), (1, 2), (2, 1), (2, 2), (3, 1), (3, 2)]
        for cut in itertools.product(range(5), repeat=2):
            self.assertIs(is_cut(RECORD, cut), cut in could, cut)
        self.assertEqual(many_cuts(RECORD), 10)
        self.assertEqual(least_quiet(RECORD), (1, 2))
        self.assertEqual(standing_of_cut(RECORD, (1, 2)), (((), ()), ()))
        self.assertEqual(standing_of_cut(RECORD, (2, 0)), (((), ()), ((0, 1, ((0, 0),)),)))
        self.assertEqual(standing_of_cut(RECORD, (0, 0)), first_standing(WORKS, GIVEN))

    def test_what_is_no_cut(self):
        self.assertIs(is_cut(RECORD, (3, 2)), True)
        wrong = [
            (), (3,), (3, 2, 0), (0, 0, 0), [3, 2], (4, 2), (3, 3), (-1, 0), (0, -1), (True, 0), (True, True), (1, False),
            (None, 0), ("1", 0), (1, (0,)), ((1, 0),), {0: 1}, "10", (0, 1), (0, 2), (10 ** 19, 0), (0, 10 ** 19),
        ]
        things = [thing for thing in odd_things() if thing != (0, 1)]
        wrong += things + [(thing, 0) for thing in odd_things()] + [(1, thing) for thing in odd_things()]
        for thing in wrong:
            self.assertIs(is_cut(RECORD, thing), False, repr(thing)[:60])
            with self.assertRaises(NoCut):
                standing_of_cut(RECORD, thing)
        # Numbers up to those that can be done alone.
        record = Record(WORKS, GIVEN, (("do", 0), ("do", 0), ("do", 0)))
        self.assertIs(is_cut(record, (1, 0)), True)
        self.assertIs(is_cut(record, (2, 0)), False)

    def test_by_chance(self):
        quiet, none = 0, 0
        for record, told, chance in records(6, 60, 22):
            works = record.ruled
            spans = [range(len(told.of_house(house)) + 1) for house in range(works.many)]
            cuts = list(itertools.product(*spans))
            could = [cut for cut in cuts if told.could_be(cut)]
            self.assertEqual(many_cuts(record), len(could))
            self.assertIn((0,) * works.many, could)
            for cut in chance.sample(cuts, min(len(cuts), 80)):
                self.assertIs(is_cut(record, cut), cut in could)
            calm = [cut for cut in could if is_quiet(works, standing_of_cut(record, cut))]
            least = tuple(min(numbers) for numbers in zip(*calm)) if calm else None
            self.assertEqual(least_quiet(record), least)
            # What is quiet in some cut is quiet at the end, and the least one is one of them.
            self.assertEqual(bool(calm), quiet_from(record) is not None)
            self.assertTrue(not calm or (least in calm and is_quiet(works, standing_at(record, told.many))))
            quiet, none = quiet + bool(calm), none + (not calm)
            for cut in chance.sample(could, min(len(could), 10)):
                self.check_standing(record, told, chance, cut)
        self.assertGreater(min(quiet, none), 10)

    def check_standing(self, record, told, chance, cut):
        """The standing of a cut is that behind its events as the beginning of an order of all."""
        within = told.within(cut)
        order = [at for at in told.some_order(chance) if at in within]
        order += [at for at in range(told.many) if at not in within]
        self.assertIs(is_order(record, order), True)
        behind = standing_at(rearranged(record, order), len(within))
        self.assertEqual(standing_of_cut(record, cut), behind)

    def test_least_quiet(self):
        self.assertIsNone(least_quiet(Record(WORKS, GIVEN, ())))
        self.assertIsNone(least_quiet(Record(WORKS, GIVEN, RUN[:3])))
        self.assertIsNone(least_quiet(Record(WORKS, GIVEN, RUN[:3] + (("do", 0),) + RUN[3:])))
        self.assertEqual(least_quiet(Record(WORKS, (), ())), (0, 0))
        self.assertEqual(least_quiet(Record(SIX, (), says(0, 3, 3))), (0,) * 6)
        self.assertEqual(least_quiet(Record(WORKS, GIVEN, says(1) + RUN + says(1))), (1, 3))

    def test_just_20000(self):
        # Houses that only say: each cut could have been.
        for counts in ((199, 99), (19, 9, 9, 9), (1, 3, 4, 4, 4, 19)):
            houses = [house for house, number in enumerate(counts) for _ in range(number)]
            random.Random(1).shuffle(houses)
            works = Works(len(counts), ((),))
            self.assertEqual(many_cuts(Record(works, (), says(*houses))), 20000)
            with self.assertRaises(TooMany) as caught:
                many_cuts(Record(works, (), says(*houses, 0)))
            self.assertEqual(caught.exception.most, 20000)
        # One house alone: one more than its events; and one more of another doubles them.
        self.assertEqual(many_cuts(Record(Works(1, ((),)), (), says(*[0] * 2000))), 2001)
        self.assertEqual(many_cuts(Record(Works(2, ((),)), (), says(*[0] * 1999, 1))), 4000)

    def test_20001(self):
        # 20001 is 3 * 59 * 113: one more than may be.
        houses = [0] * 2 + [1] * 58 + [2] * 112
        with self.assertRaises(TooMany):
            many_cuts(Record(Works(3, ((),)), (), says(*houses)))
        self.assertEqual(many_cuts(Record(Works(3, ((),)), (), says(*houses[:-1]))), 3 * 59 * 112)

    def test_many_events_of_many_houses(self):
        chance = random.Random(7)
        with self.assertRaises(TooMany):
            many_cuts(Record(SIX, (), says(*[chance.randrange(6) for _ in range(2000)])))
        # A task that goes round and round: one event causes the next, so that there are few cuts.
        works = Works(6, (((1, 0),),))
        events = ()
        for at in range(12):
            events += (("do", at % 6), ("hear", (at + 1) % 6, at % 6))
        record = Record(works, ((0, 12),), events)
        self.assertEqual(many_cuts(record), 25)
        self.assertIsNone(first_wrong(record))

    def test_none(self):
        self.assertEqual(many_cuts(Record(SIX, (), ())), 1)
        self.assertEqual(many_cuts(Record(SIX, (), (("do", 1),) * 9)), 1)


class OrderTest(unittest.TestCase):
    def test_example(self):
        for order in itertools.permutations(range(5)):
            good = order.index(0) < min(order.index(1), order.index(2))
            good = good and order.index(2) < order.index(3) and order.index(1) < order.index(4)
            self.assertIs(is_order(RECORD, order), good)
            self.assertIs(is_order(RECORD, list(order)), good)
        other = rearranged(RECORD, [0, 2, 3, 1, 4])
        self.assertEqual(other, Record(WORKS, GIVEN, (RUN[0], RUN[2], RUN[3], RUN[1], RUN[4])))
        self.assertIsNone(first_wrong(other))
        self.assertEqual(rearranged(RECORD, (0, 1, 2, 3, 4)), RECORD)

    def test_what_is_no_order(self):
        wrong = [
            (), (0,), (0, 1, 2, 3), (0, 1, 2, 3, 4, 4), (0, 1, 2, 3, 4, 5), (0, 0, 1, 2, 3), (0, 1, 2, 3, 5), (0, 1, 2, 3, -1),
            (False, 1, 2, 3, 4), (0, True, 2, 3, 4), (0, 1, 2, 3, "4"), (0, 1, 2, 3, None), (0, 1, 2, 3, (4,)), "01234",
            {0: 0, 1: 1, 2: 2, 3: 3, 4: 4}, range(5), b"\x00\x01\x02\x03\x04", ((0, 1, 2, 3, 4),), (1, 0, 2, 3, 4),
        ]
        for thing in wrong + odd_things() + [(0, 1, 2, 3, thing) for thing in odd_things()]:
            self.assertIs(is_order(RECORD, thing), False, repr(thing)[:60])
            with self.assertRaises(NoOrder):
                rearranged(RECORD, thing)
        self.assertIs(is_order(RECORD, nested(40, [0, 1, 2, 3, 4], lambda inner: [inner])), False)

    def test_none(self):
        for record in (Record(WORKS, GIVEN, ()), Record(WORKS, GIVEN, (("do", 1), ("do", 0)))):
            for thing in ((), []):
                self.assertIs(is_order(record, thing), True)
                self.assertEqual(rearranged(record, thing), Record(WORKS, GIVEN, ()))
            self.assertIs(is_order(record, (0,)), False)
            self.assertIs(is_order(record, None), False)

    def test_what_can_be_done_alone(self):
        record = Record(WORKS, GIVEN, (("say", 1, "tree"), ("do", 0), ("do", 0), ("hear", 1, 0)))
        self.assertIs(is_order(record, (1, 0)), True)
        self.assertIs(is_order(record, (0, 1, 2)), False)
        self.assertEqual(rearranged(record, (1, 0)), Record(WORKS, GIVEN, (("do", 0), ("say", 1, "tree"))))

    def test_by_chance(self):
        both = {True: 0, False: 0}
        for record, told, chance in records(8, 80, 30):
            end = standing_at(record, told.many)
            for _ in range(4):
                order = told.some_order(chance)
                self.assertIs(is_order(record, order), True)
                other = rearranged(record, tuple(order))
                self.assertEqual(other.events, tuple(record.events[at] for at in order))
                self.assertEqual((other.ruled, other.given), (record.ruled, record.given))
                self.assertIn(first_wrong(other) and first_wrong(other)[1], (None, "lie"))
                self.assertEqual(standing_at(other, told.many), end)
                if told.many > 1:
                    one, two = sorted(chance.sample(range(told.many), 2))
                    order[one], order[two] = order[two], order[one]
                    good = all(told.all[at] <= set(order[:place]) for place, at in enumerate(order))
                    self.assertIs(is_order(record, order), good)
                    both[good] += 1
        self.assertGreater(min(both.values()), 20)

    def test_beginnings(self):
        # Each beginning of an order is a cut that could have been.
        for record, told, chance in records(9, 30, 25):
            order = told.some_order(chance)
            for many in range(told.many + 1):
                cut = tuple(
                    len([at for at in order[:many] if record.events[at][1] == house]) for house in range(record.ruled.many)
                )
                self.assertIs(is_cut(record, cut), True)


class KeptTest(unittest.TestCase):
    def test_arguments_are_not_changed(self):
        order = [0, 2, 3, 1, 4]
        rearranged(RECORD, order)
        is_order(RECORD, order)
        self.assertEqual(order, [0, 2, 3, 1, 4])
        for _ in range(2):
            self.assertEqual((RECORD.given, RECORD.events), (GIVEN, RUN))
            self.assertEqual((many_cuts(RECORD), least_quiet(RECORD)), (10, (1, 2)))


if __name__ == "__main__":
    unittest.main()
