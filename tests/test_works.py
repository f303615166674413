"""Promises [1.1], [1.2], [1.3]: works, standings, plain runs."""

import itertools
import random
import unittest

from knownquiet.errors import BadWorks, NoGiven, NoHouse, NoStanding, NoTask, NothingThere, TooMany
from knownquiet.works import (
    Works, done_by, first_standing, heard_by, is_quiet, is_standing, is_task, longest_way, many_tasks, plain_run,
    sent_by, still_to_do, tasks_of,
)
from tests.odd import nested, odd_numbers, odd_things

TWO = Works(2, (((1, 0),),))
WIDE = Works(6, (((5, 5), (0, 1), (3, 3), (3, 3)), (), ((1, 2),), ((2, 4), (2, 0)), ((0, 0),), ((4, 1), (1, 2), (5, 3))))
ALONE = Works(1, (((0, 0), (0, 0)),))
FOURS = Works(3, (((0, 0), (1, 0), (2, 0), (1, 0)), ()))
SAMPLES = (TWO, WIDE, ALONE, FOURS, Works(1, ((),)), Works(3, (((2, 1), (1, 1)), ((1, 0), (0, 0)))))
NO_HOUSES = (-1, 2, 3, 6, 10 ** 19)
NO_TASKS = (
    (1, 0), (0, 13), (-1, 0), (0, -1), (True, 0), (False, 0), (0, True), (0, False), [0, 0], (0,), (0, 0, 0), (0, [0]),
    ("0", 0), (None, 0), (0, None), ((0, 0),), ((0,), 0), (0, 10 ** 19), (10 ** 19, 0), b"\x00\x00", "00",
)


def part_of(many, rules):
    """The part that BadWorks tells, or the word that it is not raised."""
    try:
        Works(many, rules)
    except BadWorks as error:
        return error.part
    return "fine"


def walked(works, house, task):
    """The pairs (house, task) of a task and all that come of it, and how long the longest way is."""
    kind, fuel = task
    pairs, longest = [(house, task)], 0
    if fuel > 0:
        for step, sent in works.rules[kind]:
            more, length = walked(works, (house + step) % works.many, (sent, fuel - 1))
            pairs.extend(more)
            longest = max(longest, length)
    return pairs, longest + 1


def chosen_run(works, given, chance):
    """Do and hear by chance until all is quiet: the sorted pairs done."""
    standing, pairs, left = first_standing(works, given), [], still_to_do(works, first_standing(works, given))
    while not is_quiet(works, standing):
        bags, ways = standing
        deeds = [(house,) for house in range(works.many) if bags[house]] + [way[:2] for way in ways]
        deed = chance.choice(deeds)
        if len(deed) == 1:
            pairs.append((deed[0], bags[deed[0]][0]))
            standing = done_by(works, standing, deed[0])
            left -= 1
        else:
            standing = heard_by(works, standing, deed[1], deed[0])
        assert is_standing(works, standing), standing
        assert still_to_do(works, standing) == left, standing
        assert (left == 0) == is_quiet(works, standing), standing
    return sorted(pairs)


def filled(most):
    """Tasks of ALONE that bring just so many, of which one with this fuel brings 2 ** (fuel + 1) - 1."""
    found = []
    for fuel in range(12, -1, -1):
        while many_of(found) + 2 ** (fuel + 1) - 1 <= most:
            found.append((0, fuel))
    return tuple(found)


def many_of(given):
    """How many tasks of ALONE come of these."""
    return sum(2 ** (fuel + 1) - 1 for _, fuel in given)


class WorksTest(unittest.TestCase):
    def test_attributes_are_kept(self):
        rules = (((1, 0), (0, 1)), ())
        works = Works(2, rules)
        self.assertEqual((works.many, works.rules), (2, rules))

    def test_the_least_and_the_greatest(self):
        self.assertEqual(part_of(1, ((),)), "fine")
        self.assertEqual(part_of(6, (((5, 5),) * 4,) * 6), "fine")
        self.assertEqual(part_of(6, ((),) * 6), "fine")
        for many, kinds, pairs in itertools.product((1, 6), (1, 6), range(5)):
            rule = ((many - 1, kinds - 1),) * pairs
            self.assertEqual(part_of(many, (rule,) * kinds), "fine")

    def test_many_is_wrong(self):
        for many in (0, 7, -1, 10 ** 19):
            self.assertEqual(part_of(many, ((),)), "many")
        for many in odd_numbers():
            self.assertEqual(part_of(many, ((),)), "many")

    def test_rules_are_no_tuple(self):
        for rules in ((), ((),) * 7, [()], [((0, 0),)], {0: ()}, "a", b"a", None, 1, range(1), True):
            self.assertEqual(part_of(1, rules), -1)
        for rules in odd_things():
            if not isinstance(rules, tuple) or len(rules) > 6:
                self.assertEqual(part_of(1, rules), -1)

    def test_a_rule_is_wrong(self):
        pairs = (
            (2, 0), (0, 2), (-1, 0), (0, -1), (True, 0), (0, True), (0, False), [0, 0], (0,), (0, 0, 0), (), 0, None,
            ("0", 0), (0, "0"), ((0,), 0), (0, [0]), b"\x00\x00", "00", range(2), (10 ** 19, 0), (0, 10 ** 19),
        )
        for pair in pairs:
            self.assertEqual(part_of(2, ((pair,), ())), 0, pair)
            self.assertEqual(part_of(2, ((), ((0, 0), pair))), 1, pair)
            self.assertEqual(part_of(2, ((), ((0, 0), (0, 0), (1, 1), pair))), 1, pair)
        for rule in ([], [(0, 0)], ((0, 0),) * 5, {}, None, 0, "", b"", range(0), True):
            self.assertEqual(part_of(2, ((), rule)), 1, rule)
            self.assertEqual(part_of(2, (rule,)), 0, rule)

    def test_odd_rules(self):
        for thing in odd_things():
            self.assertEqual(part_of(1, ((), (thing,))), 1)
            self.assertEqual(part_of(1, ((), ((thing, 0),))), 1)
            self.assertEqual(part_of(1, ((), ((0, thing),))), 1)
            if thing != ((0, 0),):
                self.assertEqual(part_of(1, ((), thing)), 1)
        for wrap in (lambda inner: (inner,), lambda inner: [inner], lambda inner: (inner, inner[:0])):
            self.assertEqual(part_of(1, ((), nested(40, (), wrap))), 1)

    def test_several_are_wrong(self):
        self.assertEqual(part_of(0, ()), "many")
        self.assertEqual(part_of(7, ((9, 9),)), "many")
        self.assertEqual(part_of(True, [()]), "many")
        self.assertEqual(part_of(1, (None,) * 7), -1)
        self.assertEqual(part_of(1, ((), ((1, 0),), None)), 1)
        self.assertEqual(part_of(1, ((), (), [], ((0, 3),))), 2)

    def test_steps_and_kinds_are_below(self):
        for many in range(1, 7):
            for step in range(8):
                self.assertEqual(part_of(many, (((step, 0),),)), "fine" if step < many else 0)
        for kinds in range(1, 7):
            for kind in range(8):
                rules = ((),) * (kinds - 1) + (((0, kind),),)
                self.assertEqual(part_of(1, rules), "fine" if kind < kinds else kinds - 1)

    def test_equal_if_both_are(self):
        self.assertTrue(Works(2, (((1, 0),),)) == TWO)
        self.assertFalse(Works(2, (((1, 0),),)) != TWO)
        for other in (Works(3, (((1, 0),),)), Works(2, (((0, 0),),)), Works(2, (((1, 0),), ())), Works(2, ((),))):
            self.assertFalse(TWO == other)
            self.assertFalse(other == TWO)
            self.assertTrue(TWO != other)
            self.assertTrue(other != TWO)

    def test_equal_to_nothing_else(self):
        for thing in odd_things() + [(2, (((1, 0),),)), 2, (((1, 0),),)]:
            if not isinstance(thing, Works):
                self.assertIs(TWO == thing, False)
                self.assertIs(TWO != thing, True)
                self.assertIs(TWO.__eq__(thing), False)


class TaskTest(unittest.TestCase):
    def test_is_task(self):
        for works in SAMPLES:
            for kind, fuel in itertools.product(range(-1, 8), range(-1, 15)):
                fits = 0 <= kind < len(works.rules) and 0 <= fuel <= 12
                self.assertIs(is_task(works, (kind, fuel)), fits)

    def test_what_is_no_task(self):
        for thing in NO_TASKS:
            self.assertIs(is_task(TWO, thing), False, thing)
        for thing in odd_things():
            self.assertIs(is_task(WIDE, thing), False)
            self.assertIs(is_task(WIDE, (thing, 0)), False)
            self.assertIs(is_task(WIDE, (0, thing)), False)

    def test_sent_by(self):
        self.assertEqual(sent_by(TWO, 1, (0, 3)), ((0, (0, 2)),))
        self.assertEqual(sent_by(TWO, 0, (0, 12)), ((1, (0, 11)),))
        self.assertEqual(sent_by(WIDE, 4, (0, 1)), ((3, (5, 0)), (4, (1, 0)), (1, (3, 0)), (1, (3, 0))))
        self.assertEqual(sent_by(WIDE, 4, (1, 12)), ())
        self.assertEqual(sent_by(ALONE, 0, (0, 2)), ((0, (0, 1)), (0, (0, 1))))

    def test_without_fuel_nothing_is_sent(self):
        for works in SAMPLES:
            for house, kind in itertools.product(range(works.many), range(len(works.rules))):
                self.assertEqual(sent_by(works, house, (kind, 0)), ())

    def test_house_then_task(self):
        for tell in (sent_by, tasks_of):
            for house in NO_HOUSES + (True, False, None, "0", (0,), [0]):
                with self.assertRaises(NoHouse):
                    tell(TWO, house, (0, 0))
                with self.assertRaises(NoHouse):
                    tell(TWO, house, None)
            for house in odd_numbers():
                with self.assertRaises(NoHouse):
                    tell(TWO, house, (0, 0))
            for task in NO_TASKS:
                with self.assertRaises(NoTask):
                    tell(TWO, 1, task)
            for task in odd_things():
                with self.assertRaises(NoTask):
                    tell(TWO, 0, task)

    def test_numbers_of_a_task(self):
        for task in list(NO_TASKS) + odd_things():
            with self.assertRaises(NoTask):
                many_tasks(TWO, task)
            with self.assertRaises(NoTask):
                longest_way(TWO, task)

    def test_example_one(self):
        self.assertEqual(tasks_of(TWO, 0, (0, 3)), (2, 2))
        self.assertEqual(tasks_of(TWO, 0, (0, 2)), (2, 1))
        self.assertEqual(tasks_of(TWO, 1, (0, 2)), (1, 2))
        self.assertEqual(many_tasks(TWO, (0, 3)), 4)
        self.assertEqual(longest_way(TWO, (0, 3)), 4)

    def test_as_walked(self):
        for works in SAMPLES:
            for kind, fuel, house in itertools.product(range(len(works.rules)), range(6), range(works.many)):
                pairs, longest = walked(works, house, (kind, fuel))
                counts = tuple(len([1 for to, _ in pairs if to == other]) for other in range(works.many))
                self.assertEqual(tasks_of(works, house, (kind, fuel)), counts)
                self.assertEqual(many_tasks(works, (kind, fuel)), len(pairs))
                self.assertEqual(longest_way(works, (kind, fuel)), longest)

    def test_tasks_that_bring_millions(self):
        many = (4 ** 13 - 1) // 3
        self.assertEqual(many_tasks(FOURS, (0, 12)), many)
        self.assertEqual(many_tasks(ALONE, (0, 12)), 2 ** 13 - 1)
        self.assertEqual(tasks_of(ALONE, 0, (0, 12)), (2 ** 13 - 1,))
        self.assertEqual(longest_way(FOURS, (0, 12)), 13)
        for house in range(3):
            counts = tasks_of(FOURS, house, (0, 12))
            self.assertEqual(sum(counts), many)
            self.assertEqual(len(counts), 3)
        self.assertEqual(many_tasks(FOURS, (1, 12)), 1)
        self.assertEqual(longest_way(FOURS, (1, 12)), 1)
        self.assertEqual(still_to_do(FOURS, first_standing(FOURS, ((0, 12),) * 20)), 20 * many)


class StandingTest(unittest.TestCase):
    def test_first_standing(self):
        self.assertEqual(first_standing(TWO, ((0, 1),)), ((((0, 1),), ()), ()))
        self.assertEqual(first_standing(TWO, ()), (((), ()), ()))
        self.assertEqual(first_standing(ALONE, ((0, 2), (0, 1))), ((((0, 2), (0, 1)),), ()))
        twenty = tuple((number % 6, number % 13) for number in range(20))
        self.assertEqual(first_standing(WIDE, twenty), ((twenty, (), (), (), (), ()), ()))

    def test_no_given(self):
        wrong = [((0, 0),) * 21, [(0, 0)], [], (0, 0), ((0, 0), [0, 0]), ((0, 13),), ((0, 0), None), ((1, 0),)]
        for tell in (first_standing, plain_run):
            for given in wrong + [(task,) for task in NO_TASKS]:
                with self.assertRaises(NoGiven):
                    tell(TWO, given)
            for thing in odd_things():
                if thing != ((0, 0),):
                    with self.assertRaises(NoGiven):
                        tell(TWO, thing)
                with self.assertRaises(NoGiven):
                    tell(TWO, ((0, 0), thing))

    def test_example_two(self):
        first = first_standing(TWO, ((0, 1),))
        self.assertEqual(done_by(TWO, first, 0), (((), ()), ((0, 1, ((0, 0),)),)))
        self.assertEqual(still_to_do(TWO, first), 2)

    def test_done_and_heard(self):
        standing = done_by(WIDE, first_standing(WIDE, ((0, 2), (3, 1), (0, 1))), 0)
        ways = ((0, 0, ((1, 1),)), (0, 3, ((3, 1), (3, 1))), (0, 5, ((5, 1),)))
        self.assertEqual(standing, ((((3, 1), (0, 1)), (), (), (), (), ()), ways))
        standing = heard_by(WIDE, standing, 3, 0)
        ways = ((0, 0, ((1, 1),)), (0, 3, ((3, 1),)), (0, 5, ((5, 1),)))
        self.assertEqual(standing, ((((3, 1), (0, 1)), (), (), ((3, 1),), (), ()), ways))
        standing = heard_by(WIDE, standing, 0, 0)
        ways = ((0, 3, ((3, 1),)), (0, 5, ((5, 1),)))
        self.assertEqual(standing, ((((3, 1), (0, 1), (1, 1)), (), (), ((3, 1),), (), ()), ways))
        standing = done_by(WIDE, standing, 0)
        ways = ((0, 2, ((4, 0), (0, 0))), (0, 3, ((3, 1),)), (0, 5, ((5, 1),)))
        self.assertEqual(standing, ((((0, 1), (1, 1)), (), (), ((3, 1),), (), ()), ways))
        standing = done_by(WIDE, standing, 0)
        ways = (
            (0, 0, ((1, 0),)), (0, 2, ((4, 0), (0, 0))), (0, 3, ((3, 1), (3, 0), (3, 0))), (0, 5, ((5, 1), (5, 0))),
        )
        self.assertEqual(standing, ((((1, 1),), (), (), ((3, 1),), (), ()), ways))
        standing = done_by(WIDE, standing, 3)
        ways = ways + ((3, 5, ((4, 0), (0, 0))),)
        self.assertEqual(standing, ((((1, 1),), (), (), (), (), ()), ways))

    def test_first_sent_is_first_heard(self):
        standing = (((), ()), ((0, 1, ((0, 3), (0, 1), (0, 2))), (1, 0, ((0, 4),)), (1, 1, ((0, 5),))))
        standing = heard_by(TWO, heard_by(TWO, standing, 1, 0), 1, 1)
        self.assertEqual(standing, (((), ((0, 3), (0, 5))), ((0, 1, ((0, 1), (0, 2))), (1, 0, ((0, 4),)))))

    def test_nothing_there(self):
        standing = (((), ((0, 1),)), ((0, 1, ((0, 0),)),))
        with self.assertRaises(NothingThere):
            done_by(TWO, standing, 0)
        for house, sender in ((0, 0), (0, 1), (1, 1)):
            with self.assertRaises(NothingThere):
                heard_by(TWO, standing, house, sender)
        self.assertEqual(heard_by(TWO, standing, 1, 0), (((), ((0, 1), (0, 0))), ()))
        self.assertEqual(done_by(TWO, standing, 1), (((), ()), ((0, 1, ((0, 0),)), (1, 0, ((0, 0),)))))

    def test_order_of_the_errors(self):
        empty = (((), ()), ())
        for house in NO_HOUSES + tuple(odd_numbers()):
            with self.assertRaises(NoStanding):
                done_by(TWO, None, house)
            with self.assertRaises(NoStanding):
                heard_by(TWO, None, house, house)
            with self.assertRaises(NoHouse):
                done_by(TWO, empty, house)
            with self.assertRaises(NoHouse):
                heard_by(TWO, empty, house, 0)
            with self.assertRaises(NoHouse):
                heard_by(TWO, empty, 0, house)
            with self.assertRaises(NoHouse):
                heard_by(TWO, empty, house, house)

    def test_is_quiet(self):
        self.assertIs(is_quiet(TWO, (((), ()), ())), True)
        self.assertIs(is_quiet(TWO, (((), ((0, 0),)), ())), False)
        self.assertIs(is_quiet(TWO, ((((0, 0),), ()), ())), False)
        self.assertIs(is_quiet(TWO, (((), ()), ((1, 1, ((0, 0),)),))), False)

    def test_still_to_do(self):
        self.assertEqual(still_to_do(TWO, (((), ()), ())), 0)
        ways = ((0, 1, ((0, 0), (0, 2))), (1, 1, ((0, 12),)))
        self.assertEqual(still_to_do(TWO, ((((0, 1),), ((0, 3), (0, 0))), ways)), 2 + 4 + 1 + 1 + 3 + 13)


class NoStandingTest(unittest.TestCase):
    def refused(self, thing):
        self.assertIs(is_standing(TWO, thing), False)
        for call in (
            lambda: done_by(TWO, thing, 0), lambda: heard_by(TWO, thing, 0, 0), lambda: is_quiet(TWO, thing),
            lambda: still_to_do(TWO, thing),
        ):
            with self.assertRaises(NoStanding):
                call()

    def test_is_standing(self):
        every = tuple((one, other, ((0, 12),)) for one in range(2) for other in range(2))
        for standing in (
            (((), ()), ()), ((((0, 0),) * 30, ()), ()), (((), ()), every), (((), ()), every[1:]), (((), ()), every[::3]),
            ((((0, 12),), ((0, 0),)), ((1, 0, ((0, 5),) * 50),)),
        ):
            self.assertIs(is_standing(TWO, standing), True)
            self.assertIs(is_standing(WIDE, standing), False)

    def test_another_form(self):
        for thing in (
            [((), ()), ()], ([(), ()], ()), (((), ()), []), (([], ()), ()), (((), []), ()), (((),), ()), ((), ()),
            (((), (), ()), ()), (((), ()),), (((), ()), (), ()), (((), ()), None), (None, ()), ((((0, 0)), ()), ()),
            (((), ([0, 0],)), ()), ((((0, 13),), ()), ()), ((((1, 0),), ()), ()), ((((0, True),), ()), ()),
        ):
            self.refused(thing)
        for thing in odd_things():
            self.refused(thing)
            self.refused((thing, ()))
            self.refused((((), ()), thing))
            self.refused(((thing, ()), ()) if thing != ((0, 0),) else None)
            self.refused((((), (thing,)), ()))
            self.refused((((), ()), (thing,)))

    def test_ways_of_another_form(self):
        for way in (
            (0, 1, ()), (0, 1, [(0, 0)]), [0, 1, ((0, 0),)], (0, 2, ((0, 0),)), (2, 0, ((0, 0),)), (0, 1), (),
            (-1, 0, ((0, 0),)), (0, -1, ((0, 0),)), (True, 0, ((0, 0),)), (0, True, ((0, 0),)), (0, 1, (0, 0)),
            (0, 1, ((0, 0), (0, 13))), (0, 1, ((0, 0), None)), (0, 1, None), (0, 1, ((0, 0),), 0), (0, 1, ((1, 0),)),
            (None, 0, ((0, 0),)), ("0", 0, ((0, 0),)), ((0,), 0, ((0, 0),)),
        ):
            self.refused((((), ()), (way,)))
            self.refused((((), ()), ((0, 0, ((0, 0),)), way)))
        for thing in odd_things():
            for way in ((thing, 0, ((0, 0),)), (0, thing, ((0, 0),)), (0, 0, (thing,)), (0, 0, ((0, thing),))):
                self.refused((((), ()), (way,)))

    def test_ways_not_ascending_or_doubled(self):
        one, two, three = (0, 1, ((0, 0),)), (0, 1, ((0, 1),)), (1, 0, ((0, 0),))
        for ways in ((one, one), (one, two), (two, one), (three, one), (one, three, one), (one, three, three)):
            self.refused((((), ()), ways))
        self.assertIs(is_standing(TWO, (((), ()), (one, three))), True)

    def test_ways_by_from_then_to(self):
        pairs = [(0, 5), (1, 0), (1, 4), (5, 0)]
        ways = tuple(pair + (((0, 0),),) for pair in pairs)
        bags = ((),) * 6
        self.assertIs(is_standing(WIDE, (bags, ways)), True)
        for order in itertools.permutations(ways):
            self.assertIs(is_standing(WIDE, (bags, order)), order == ways)


class FactOfWorksTest(unittest.TestCase):
    def test_in_whatever_order(self):
        chance = random.Random(11)
        for works in SAMPLES:
            for _ in range(12):
                kinds = len(works.rules)
                given = tuple((chance.randrange(kinds), chance.randrange(4)) for _ in range(chance.randrange(4)))
                runs = [chosen_run(works, given, chance) for _ in range(4)]
                runs.append(sorted(plain_run(works, given)))
                self.assertEqual(runs, [runs[0]] * 5)
                counts = tuple(len([1 for to, _ in runs[0] if to == house]) for house in range(works.many))
                told = [tasks_of(works, 0, task) for task in given]
                self.assertEqual(counts, tuple(sum(row[house] for row in told) for house in range(works.many)))

    def test_arguments_stay(self):
        standing = ((((0, 2),), ()), ((0, 1, ((0, 1), (0, 0))),))
        before = repr(standing)
        done_by(TWO, standing, 0)
        heard_by(TWO, standing, 1, 0)
        self.assertEqual(repr(standing), before)
        self.assertEqual(repr(TWO.rules), "(((1, 0),),)")


class PlainRunTest(unittest.TestCase):
    def test_example_three(self):
        self.assertEqual(plain_run(TWO, ((0, 2),)), [(0, (0, 2)), (1, (0, 1)), (0, (0, 0))])

    def test_the_least_house_first(self):
        works = Works(3, (((2, 1), (1, 0), (0, 1)), ((1, 1),)))
        self.assertEqual(plain_run(works, ((0, 1), (1, 1))), [
            (0, (0, 1)), (0, (1, 1)), (0, (1, 0)), (1, (0, 0)), (1, (1, 0)), (2, (1, 0)),
        ])
        self.assertEqual(plain_run(works, ((0, 2),)), [
            (0, (0, 2)), (0, (1, 1)), (1, (0, 1)), (0, (1, 0)), (1, (1, 0)), (1, (1, 0)), (2, (1, 1)), (0, (1, 0)),
            (2, (0, 0)),
        ])

    def test_none_given(self):
        self.assertEqual(plain_run(TWO, ()), [])

    def test_lists_are_new(self):
        one, other = plain_run(TWO, ((0, 1),)), plain_run(TWO, ((0, 1),))
        one.clear()
        self.assertEqual(len(other), 2)
        self.assertEqual(len(plain_run(TWO, ((0, 1),))), 2)

    def test_twenty_thousand(self):
        given = filled(20000)
        self.assertEqual(many_of(given), 20000)
        self.assertEqual(plain_run(ALONE, given)[0], (0, (0, 12)))
        self.assertEqual(len(plain_run(ALONE, given)), 20000)
        for more in (1, 2, 3, 100):
            self.assertEqual(many_of(filled(20000 + more)), 20000 + more)
            with self.assertRaises(TooMany) as caught:
                plain_run(ALONE, filled(20000 + more))
            self.assertEqual(caught.exception.most, 20000)

    def test_far_too_many(self):
        for given in (((0, 12),), ((1, 0), (0, 12)), ((0, 12),) * 20):
            with self.assertRaises(TooMany) as caught:
                plain_run(FOURS, given)
            self.assertEqual(caught.exception.most, 20000)


if __name__ == "__main__":
    unittest.main()
