"""Promises [10.1] and [10.2]: houses led through faults, and THE MAIN FACT [0.1]."""

import random
import unittest

from knownquiet.disks import Disk
from knownquiet.errors import BadDeeds, NoDeed, NoHouse, NoNumber
from knownquiet.glass import broken, first_glass, is_glass, lies_told, moved, pictured, quiet_glass, run_out
from knownquiet.nets import Net, led_by, round_trip, settle
from knownquiet.posts import Post
from knownquiet.rows import sealed, unsealed
from knownquiet.savings import SavedHouse
from knownquiet.states import says
from knownquiet.watchers import answers_left, shares_left, signs_left
from knownquiet.works import Works, many_tasks
from tests.odd import nested, odd_numbers, odd_things
from tests.told import BUSY, EACH, ONE, SIX, THREE, WORKS

CHAIN = Works(2, (((1, 0),), ()))
NOTHING = (1, 2, 3)


def all_of(net):
    """All that a net tells of itself."""
    numbers = range(net.works.many)
    disks = [net.disk(number) for number in numbers]
    return (
        [net.house(number).past() for number in numbers], [(disk.blocks(), disk.synced()) for disk in disks],
        net.bag(), net.glass(),
    )


def tasks_left(net):
    """How many tasks are to be done, or come of them, still: by the glass."""
    states, ways = net.glass()
    tasks = [task for state in states for task in state[0]]
    tasks += [word[1:3] for way in ways for word in way[2] if word[0] == "task"]
    return sum(many_tasks(net.works, task) for task in tasks)


def did(net, deed):
    """What a deed returns, or the word that it can't be done."""
    try:
        return net.deed(deed)
    except NoDeed:
        return "can't"


class TellTest(unittest.TestCase):
    def test_begun(self):
        for works in EACH:
            net = Net(works)
            self.assertEqual(net.glass(), first_glass(works))
            self.assertEqual(net.bag(), [])
            for number in range(works.many):
                house, disk = net.house(number), net.disk(number)
                self.assertIsInstance(house, SavedHouse)
                self.assertIsInstance(disk, Disk)
                self.assertEqual(house.past(), Post(works, number).past())
                self.assertEqual(disk.blocks(), [sealed(("house", works.many, works.rules, number))])
                self.assertEqual(disk.synced(), 1)

    def test_no_house(self):
        net = Net(THREE)
        for thing in odd_numbers() + [3, -1, 10 ** 19]:
            with self.assertRaises(NoHouse, msg=repr(thing)[:60]):
                net.house(thing)
            with self.assertRaises(NoHouse, msg=repr(thing)[:60]):
                net.disk(thing)

    def test_disks_are_copies(self):
        net = Net(WORKS)
        before = all_of(net)
        disk = net.disk(0)
        disk.write((1,))
        disk.drop(0)
        self.assertEqual(all_of(net), before)
        self.assertEqual(net.disk(0).blocks(), before[1][0][0])

    def test_bags_are_new(self):
        net = Net(WORKS)
        net.deed(("send", 1, NOTHING))
        bag = net.bag()
        bag.append((0, ()))
        bag[0] = None
        self.assertEqual(net.bag(), [(1, NOTHING)])

    def test_glass(self):
        net = Net(WORKS)
        led_by(net, [("give", (0, 2)), ("do", 0), ("pass", 0), ("picture", 1, 4), ("picture", 0, 4)])
        task, sign, mark = ("task", 0, 1, (1,)), ("sign", 0, 0, 0), ("mark", 4)
        ways = ((0, 0, (mark,)), (0, 1, (task, sign, mark)), (1, 0, (mark,)), (1, 1, (mark,)))
        self.assertEqual(net.glass(), ((net.house(0).state(), net.house(1).state()), ways))
        # What is taken is on no way, though the first house does not know it yet; what is held, is.
        led_by(net, [("post", 0, 1), ("bring", 0)])
        self.assertEqual(len(net.house(0).past()[1][1][1]), 3)
        self.assertEqual([way[:2] for way in net.glass()[1]], [(0, 0), (1, 0), (1, 1)])
        self.assertEqual(broken(WORKS, net.glass()), ())

    def test_equal_to_itself_alone(self):
        net = Net(WORKS)
        self.assertTrue(net == net)
        for thing in odd_things():
            self.assertFalse(net == thing)


class DeedTest(unittest.TestCase):
    def setUp(self):
        self.net = Net(WORKS)

    def can_not(self, *deeds):
        before = all_of(self.net)
        for deed in deeds:
            with self.assertRaises(NoDeed, msg=repr(deed)[:80]):
                self.net.deed(deed)
        self.assertEqual(all_of(self.net), before)

    def test_houses_deeds(self):
        net, post = self.net, Post(WORKS, 0)
        for deed, mine in [
            (("give", (0, 2)), ("give", (0, 2))), (("do", 0), ("do",)), (("pass", 0), ("pass",)),
            (("picture", 0, 7), ("picture", 7)),
        ]:
            self.assertIsNone(net.deed(deed))
            post.deed(mine)
            self.assertEqual(net.house(0).past(), post.past())
            self.assertEqual(net.disk(0).blocks()[-1], sealed(("deed", mine)))
        self.assertEqual(net.disk(0).synced(), 1)
        self.assertEqual(net.house(1).past(), Post(WORKS, 1).past())
        self.can_not(("do", 0), ("pass", 0), ("picture", 0, 7), ("do", 1), ("pass", 1))

    def test_keep(self):
        self.net.deed(("picture", 1, 3))
        self.assertEqual(self.net.deed(("keep", 1)), 3)
        self.assertEqual(self.net.deed(("keep", 0)), 2)
        disk = self.net.disk(1)
        self.assertEqual((disk.blocks()[2], disk.synced()), (sealed(("past", self.net.house(1).past())), 3))

    def test_post_and_bring(self):
        net = self.net
        led_by(net, [("give", (0, 2)), ("do", 0)])
        self.assertIsNone(net.deed(("post", 0, 1)))
        row = Post(WORKS, 0)
        row.deed(("give", (0, 2)))
        row.deed(("do",))
        self.assertEqual(net.bag(), [(1, row.letter(1))])
        self.assertEqual(net.disk(0).synced(), 3)
        self.assertIsNone(net.deed(("post", 1, 1)))
        self.assertIsNone(net.deed(("double", 0)))
        self.assertEqual(net.bag(), [(1, row.letter(1)), (1, Post(WORKS, 1).letter(1)), (1, row.letter(1))])
        self.assertEqual(net.deed(("bring", 2)), "new")
        self.assertEqual(net.bag(), [(1, row.letter(1)), (1, Post(WORKS, 1).letter(1))])
        self.assertEqual(net.house(1).state()[0], ((0, 1),))
        self.assertEqual(net.deed(("bring", 0)), "old")
        self.assertIsNone(net.deed(("send", 0, ())))
        self.assertIsNone(net.deed(("lose", 0)))
        self.assertEqual(net.bag(), [(0, ())])
        self.assertEqual(net.deed(("bring", 0)), "none")
        self.can_not(("bring", 0), ("lose", 0), ("double", 0), ("spoil", 0, 0, 0))

    def test_bag_in_order(self):
        net = self.net
        for number in range(4):
            net.deed(("send", number % 2, (number,)))
        net.deed(("double", 1))
        net.deed(("lose", 2))
        self.assertEqual(net.bag(), [(0, (0,)), (1, (1,)), (1, (3,)), (1, (1,))])
        net.deed(("bring", 0))
        self.assertEqual(net.bag(), [(1, (1,)), (1, (3,)), (1, (1,))])
        for name in ("bring", "lose", "double"):
            self.can_not((name, 3), (name, -1), (name, True), (name, None))

    def test_spoil(self):
        net = self.net
        net.deed(("post", 0, 1))
        row = net.bag()[0][1]
        chance = random.Random(1)
        for at in range(len(row)):
            byte = chance.choice([number for number in range(256) if number != row[at]])
            self.assertIsNone(net.deed(("spoil", 0, at, byte)))
            spoilt = row[:at] + (byte,) + row[at + 1:]
            self.assertEqual(net.bag(), [(1, spoilt)])
            self.assertIsNone(net.deed(("spoil", 0, at, byte)))
            # Spoilt back it would be sealed again, and is not as it was.
            self.can_not(("spoil", 0, at, row[at]))
            net.deed(("lose", 0))
            net.deed(("post", 0, 1))
            self.assertIsNone(net.deed(("spoil", 0, at, row[at])))
            self.assertEqual(net.bag(), [(1, row)])
        self.can_not(
            ("spoil", 0, len(row), 0), ("spoil", 0, -1, 0), ("spoil", 0, 0, 256), ("spoil", 0, 0, -1), ("spoil", 1, 0, 0),
            ("spoil", 0, True, 0), ("spoil", 0, 0, True), ("spoil", False, 0, 0), ("spoil", 0, 0, None), ("spoil", 0, None, 0),
        )
        net.deed(("send", 1, ()))
        self.can_not(("spoil", 1, 0, 0))
        for byte in (255, 0):
            self.assertIsNone(net.deed(("spoil", 0, 1, byte)))
            self.assertEqual(net.bag()[0][1][1], byte)

    def test_send(self):
        net = self.net
        for to, row in [(0, ()), (1, NOTHING), (1, (255,) * 50), (0, net.house(1).letter(0)[:-1])]:
            self.assertIsNone(net.deed(("send", to, row)))
            self.assertEqual(net.bag()[-1], (to, row))
        letter = net.house(1).letter(0)
        self.can_not(
            ("send", 0, letter), ("send", 1, letter), ("send", 0, sealed(None)), ("send", 0, sealed((1, 2))), ("send", 2, ()),
            ("send", -1, ()), ("send", True, ()), ("send", 0, []), ("send", 0, (256,)), ("send", 0, (-1,)), ("send", 0, (True,)),
            ("send", 0, None), ("send", 0, "ab"), ("send", None, ()), ("send", 0, list(NOTHING)), ("send", 0, (NOTHING,)),
        )

    def test_cut(self):
        net = self.net
        led_by(net, [("give", (0, 2)), ("do", 0), ("picture", 0, 5)])
        blocks = net.disk(0).blocks()
        before, other = net.house(0), net.house(1)
        self.can_not(
            ("cut", 0, ()), ("cut", 0, (1, 2)), ("cut", 0, (0, 0, 0, 0)), ("cut", 0, [0, 0, 0]), ("cut", 0, (0, 0, 999)),
            ("cut", 0, (0, 0, -1)), ("cut", 0, (0, 0, True)), ("cut", 0, None), ("cut", 1, (0,)), ("cut", 2, ()),
            ("cut", None, ()), ("cut", True, ()), ("cut", 0, 3),
        )
        self.assertIsNone(net.deed(("cut", 0, (len(blocks[1]), len(blocks[2]), 4))))
        disk = Disk()
        for block in blocks[:3]:
            disk.write(block)
        self.assertEqual(net.house(0).past(), SavedHouse(WORKS, 0, disk).past())
        self.assertEqual((net.disk(0).blocks(), net.disk(0).synced()), (blocks[:3], 3))
        self.assertNotEqual(net.house(0).past(), before.past())
        self.assertIs(net.house(1), other)
        self.assertIsNone(net.deed(("cut", 0, ())))
        self.assertEqual(net.disk(0).blocks(), blocks[:3])
        # The house goes on with its disk.
        net.deed(("picture", 0, 6))
        self.assertEqual(net.disk(0).blocks()[3:], [sealed(("deed", ("picture", 6)))])

    def test_just_1000_tasks(self):
        net = Net(CHAIN)
        self.net = net
        for _ in range(76):
            self.assertIsNone(net.deed(("give", (0, 12))))
        self.assertEqual(tasks_left(net), 988)
        self.can_not(("give", (0, 12)))
        self.assertIsNone(net.deed(("give", (0, 10))))
        self.assertIsNone(net.deed(("give", (1, 12))))
        self.assertEqual(tasks_left(net), 1000)
        self.can_not(("give", (1, 0)), ("give", (0, 0)), ("give", (0, 12)))
        # Tasks on their way are still to be done.
        led_by(net, [("do", 0), ("post", 0, 1)])
        self.assertEqual(tasks_left(net), 999)
        self.can_not(("give", (0, 1)))
        self.assertIsNone(net.deed(("give", (1, 1))))
        net.deed(("bring", 0))
        self.can_not(("give", (1, 0)))
        net.deed(("do", 1))
        self.assertIsNone(net.deed(("give", (1, 0))))
        self.can_not(("give", (1, 0)))

    def test_more_than_500_at_once(self):
        net = Net(Works(1, (((0, 0),) * 4,)))
        self.net = net
        self.can_not(("give", (0, 5)), ("give", (0, 12)))
        self.assertIsNone(net.deed(("give", (0, 4))))
        self.assertIsNone(net.deed(("give", (0, 4))))
        self.assertEqual(tasks_left(net), 682)
        self.can_not(("give", (0, 4)))

    def test_wrong_forms(self):
        self.net.deed(("send", 0, ()))
        good = [
            ("give", (0, 0)), ("do", 0), ("pass", 0), ("picture", 0, 1), ("keep", 0), ("post", 0, 1), ("bring", 0), ("lose", 0),
            ("double", 0), ("spoil", 0, 0, 0), ("send", 0, ()), ("cut", 0, ()),
        ]
        for deed in good:
            wrong = [deed[:-1], deed + (0,), list(deed), (deed,), (deed[0].upper(),) + deed[1:], (deed[0] + " ",) + deed[1:]]
            wrong += [(deed[0].encode(),) + deed[1:], deed[1:], (None,) + deed[1:], deed[0]]
            self.can_not(*wrong)
            for place in range(1, len(deed)):
                for thing in odd_things() + odd_numbers():
                    if deed[0] == "send" and place == 2 and thing in ((), (0,), (0, 1), (0, 0), (0, 1, 2, 3)):
                        continue
                    if deed[0] == "cut" and place == 2 and thing == ():
                        continue
                    if deed[0] == "give" and thing == (0, 1) or thing == (0, 0):
                        continue
                    with self.assertRaises(NoDeed, msg=(deed, repr(thing)[:60])):
                        self.net.deed(deed[:place] + (thing,) + deed[place + 1:])
        self.can_not(
            ("give", (2, 0)), ("give", (0, 13)), ("do", 2), ("do", -1), ("do", 10 ** 19), ("pass", 2), ("keep", 2), ("keep", -1),
            ("picture", 2, 1), ("picture", 0, 1000), ("picture", 0, -1), ("post", 2, 0), ("post", 0, 2), ("post", -1, 0),
            ("bring", 1), ("lose", 1), ("double", 1), ("spoil", 1, 0, 0), ("hear", ()), ("trip",), ("settle", 1), (), ("",),
        )
        self.can_not(*(odd_things() + [nested(39, (), lambda inner: ("do", inner))]))

    def test_led_by(self):
        net = self.net
        deeds = [("give", (0, 1)), ("do", 0), ("post", 0, 1), ("double", 0), ("bring", 0), ("bring", 0), ("keep", 1)]
        self.assertEqual(led_by(net, deeds), [None, None, None, None, "new", "old", 3])
        self.assertEqual(len(deeds), 7)
        self.assertEqual(led_by(net, tuple(deeds[:1])), [None])
        self.assertEqual((led_by(net, []), led_by(net, ())), ([], []))

    def test_bad_deeds(self):
        net = self.net
        before = all_of(net)
        for thing in odd_things() + ["", "do", b"", {}, {0: ("do", 0)}, None, 0, range(0)]:
            if not isinstance(thing, (list, tuple)):
                with self.assertRaises(BadDeeds, msg=repr(thing)[:60]) as caught:
                    led_by(net, thing)
                self.assertEqual(caught.exception.index, -1)
            elif len(thing) > 0:
                with self.assertRaises(BadDeeds) as caught:
                    led_by(net, thing)
                self.assertEqual(caught.exception.index, 0)
        self.assertEqual(all_of(net), before)
        for wrong in (("do", 1), None, ("give", (0, 13)), ("bring", 5), [("do", 0)]):
            net, other = Net(WORKS), Net(WORKS)
            with self.assertRaises(BadDeeds) as caught:
                led_by(net, [("give", (0, 1)), ("do", 0), wrong, ("pass", 0)])
            self.assertEqual(caught.exception.index, 2)
            led_by(other, [("give", (0, 1)), ("do", 0)])
            self.assertEqual(all_of(net), all_of(other))

    def test_equal_calls(self):
        deeds = [("give", (0, 3)), ("do", 0), ("post", 0, 1), ("bring", 0), ("picture", 1, 2), ("do", 1), ("post", 1, 0)]
        self.assertEqual(led_by(Net(WORKS), deeds), led_by(self.net, deeds))
        other = Net(WORKS)
        led_by(other, deeds)
        self.assertEqual(all_of(other), all_of(self.net))


def plain_trip(works, houses):
    """A round trip by plain houses."""
    many = 0
    for house in houses:
        state = house.state()
        if state[6] is not None and not state[0] and not state[8]:
            house.deed(("pass",))
        if house.state()[0]:
            house.deed(("do",))
            many += 1
    for one in range(works.many):
        for other in range(works.many):
            while houses[one].past()[1][other][1]:
                houses[other].deed(("hear", houses[one].letter(other)))
                houses[one].deed(("hear", houses[other].letter(one)))
    return many


class TripTest(unittest.TestCase):
    def test_step_by_step(self):
        chance = random.Random(2)
        for works in EACH:
            net = Net(works)
            disks = [Disk() for _ in range(works.many)]
            houses = [SavedHouse(works, number, disk) for number, disk in enumerate(disks)]
            done = 0
            for trip in range(14):
                if trip < 5:
                    task = (0, chance.randint(0, 2))
                    net.deed(("give", task))
                    houses[0].deed(("give", task))
                if trip in (2, 5):
                    net.deed(("picture", works.many - 1, trip))
                    houses[-1].deed(("picture", trip))
                many = round_trip(net)
                self.assertEqual(many, plain_trip(works, houses))
                done += many
                self.assertEqual([net.house(number).past() for number in range(works.many)], [house.past() for house in houses])
                for number, disk in enumerate(disks):
                    self.assertEqual(net.disk(number).blocks(), disk.blocks())
                    self.assertEqual(net.disk(number).synced(), disk.synced())
            self.assertGreater(done, 4)

    def test_by_hand(self):
        net = Net(WORKS)
        self.assertEqual(round_trip(net), 0)
        self.assertEqual(net.glass(), first_glass(WORKS))
        net.deed(("give", (0, 1)))
        self.assertEqual(round_trip(net), 1)
        self.assertEqual(net.house(1).state()[0], ((0, 0),))
        self.assertEqual(net.glass()[1], ())
        self.assertEqual([round_trip(net) for _ in range(3)], [1, 0, 0])

    def test_only_as_long_as_words_wait(self):
        net = Net(WORKS)
        before = all_of(net)
        for _ in range(3):
            self.assertEqual(round_trip(net), 0)
        self.assertEqual(all_of(net), before)
        # House 0 begins the picture when it hears 1; what it sends to itself then waits, for that pair was ahead.
        net.deed(("picture", 1, 3))
        round_trip(net)
        self.assertEqual(net.glass()[1], ((0, 0, (("mark", 3),)),))
        round_trip(net)
        self.assertEqual(net.glass()[1], ())
        for number in range(2):
            self.assertEqual(net.house(number).part_of(3)[2], True)

    def test_more_than_20_words(self):
        net = Net(WORKS)
        for number in range(70):
            net.deed(("picture", 0, number))
        self.assertEqual(len(net.glass()[1][0][2]), 70)
        round_trip(net)
        self.assertEqual(net.glass()[1], ())
        for number in range(70):
            self.assertIs(net.house(1).part_of(number)[2], True)

    def test_the_bag_stays(self):
        net = Net(THREE)
        led_by(net, [("give", (0, 2)), ("do", 0), ("post", 0, 1), ("post", 0, 2), ("send", 0, NOTHING), ("double", 0)])
        bag = net.bag()
        round_trip(net)
        self.assertEqual(net.bag(), bag)
        settle(net, 50)
        self.assertEqual(net.bag(), bag)
        self.assertEqual([net.deed(("bring", 0)) for _ in range(4)], ["old", "old", "none", "old"])

    def test_settle(self):
        net = Net(WORKS)
        self.assertEqual([settle(net, most) for most in (0, 1, 1000)], [0, 0, 0])
        net.deed(("give", (0, 1)))
        twin = Net(WORKS)
        twin.deed(("give", (0, 1)))
        self.assertEqual(settle(net, 0), 0)
        self.assertEqual(all_of(net), all_of(twin))
        trips = 0
        while says(WORKS, twin.house(0).state()) != (True, True, True):
            round_trip(twin)
            trips += 1
        self.assertGreater(trips, 2)
        self.assertEqual(settle(net, 1), 1)
        self.assertEqual(settle(net, trips - 2), trips - 2)
        self.assertNotEqual(all_of(net), all_of(twin))
        self.assertEqual(settle(net, 1000), 1)
        self.assertEqual(all_of(net), all_of(twin))
        self.assertEqual(settle(net, 1000), 0)

    def test_settle_until_no_task_is_left(self):
        # All three say quiet, and no task is left: a mark on its way does not matter.
        net = Net(WORKS)
        net.deed(("picture", 0, 1))
        self.assertEqual(settle(net, 5), 0)
        self.assertEqual(len(net.glass()[1]), 2)

    def test_no_number(self):
        net = Net(WORKS)
        net.deed(("give", (0, 1)))
        before = all_of(net)
        for thing in odd_numbers() + [1001, -1, 10 ** 19]:
            with self.assertRaises(NoNumber, msg=repr(thing)[:60]):
                settle(net, thing)
        self.assertEqual(all_of(net), before)


class Leader:
    """Deeds of all sorts by chance."""

    def __init__(self, works, chance, gifts, cuts):
        self.works, self.chance, self.gifts, self.cuts = works, chance, gifts, cuts
        self.net = Net(works)
        self.counts = {}

    def some_task(self):
        task = (self.chance.randrange(len(self.works.rules)), self.chance.randint(0, 12))
        while many_tasks(self.works, task) > 40:
            task = (task[0], task[1] - 1)
        return task

    def some_deed(self):
        chance, bag = self.chance, self.net.bag()
        house, other = chance.randrange(self.works.many), chance.randrange(self.works.many)
        number = chance.randrange(len(bag)) if bag else 0
        what = chance.randrange(100)
        if what < self.gifts:
            return ("give", self.some_task())
        if what < 24:
            return ("do", house)
        if what < 34:
            return ("pass", house)
        if what < 37:
            return ("picture", house, chance.randrange(8))
        if what < 39:
            return ("keep", house)
        if what < 62:
            return ("post", house, other)
        if what < 84:
            return ("bring", number)
        if what < 86:
            return ("lose", number)
        if what < 90:
            return ("double", number)
        if what < 93:
            return ("spoil", number, chance.randrange(max(1, len(bag[number][1]) if bag else 1)), chance.randrange(256))
        if what < 95:
            return ("send", house, tuple(chance.randrange(256) for _ in range(chance.randrange(30))))
        disk = self.net.disk(house)
        waiting = disk.blocks()[disk.synced():]
        if not self.cuts:
            return ("do", other)
        return ("cut", house, tuple(chance.randint(0, len(row)) if chance.randrange(2) else len(row) for row in waiting))

    def step(self):
        deed = self.some_deed()
        told = did(self.net, deed)
        if told != "can't":
            self.counts[deed[0]] = self.counts.get(deed[0], 0) + 1
        if told in ("new", "old", "none"):
            self.counts[told] = self.counts.get(told, 0) + 1


class MainFactTest(unittest.TestCase):
    def check_glass(self, net):
        glass = net.glass()
        self.assertIs(is_glass(net.works, glass), True)
        self.assertEqual((broken(net.works, glass), lies_told(net.works, glass)), ((), ()))

    def check_settles(self, net):
        works = net.works
        left = tasks_left(net)
        # Once all is quiet, each watcher says so within its number, as the net's glass runs out.
        glass = net.glass()
        end = run_out(works, glass)[0]
        self.assertEqual(says(works, end[0][0]), (True, True, True))
        trips = settle(net, 1000)
        self.assertLessEqual(trips, left + 3 * works.many + 3)
        glass = net.glass()
        self.assertTrue(quiet_glass(works, glass))
        self.assertEqual(says(works, net.house(0).state()), (True, True, True))
        self.assertEqual([left(works, glass) for left in (answers_left, shares_left, signs_left)], [0, 0, 0])
        self.assertEqual(broken(works, glass), ())

    def check_pictures(self, net):
        seen = 0
        for number in range(8):
            parts = tuple(net.house(house).part_of(number) for house in range(net.works.many))
            if all(part is not None and part[2] for part in parts):
                glass = pictured(net.works, parts)
                self.assertEqual((broken(net.works, glass), lies_told(net.works, glass)), ((), ()))
                seen += 1
        return seen

    def test_deeds_of_all_sorts(self):
        counts, seen, said = {}, 0, 0
        for seed in range(15):
            works = EACH[seed % 5]
            leader = Leader(works, random.Random(seed), 4, True)
            for step in range(450):
                leader.step()
                self.check_glass(leader.net)
                said += any(says(works, leader.net.house(0).state()))
            seen += self.check_pictures(leader.net)
            self.check_settles(leader.net)
            seen += self.check_pictures(leader.net)
            for name, many in leader.counts.items():
                counts[name] = counts.get(name, 0) + many
        names = "give do pass picture keep post bring lose double spoil send cut new old none".split()
        self.assertEqual(sorted(counts), sorted(names))
        self.assertGreater(min(counts.values()), 20)
        self.assertGreater(min(seen, said), 10)

    def test_hundreds_of_letters(self):
        for seed in range(3):
            chance = random.Random(seed)
            leader = Leader((SIX, THREE, BUSY)[seed], chance, 6, False)
            net = leader.net
            for _ in range(260):
                did(net, chance.choice([("give", leader.some_task()), ("do", chance.randrange(net.works.many))]))
                for _ in range(2):
                    did(net, ("post", chance.randrange(net.works.many), chance.randrange(net.works.many)))
                if chance.randrange(3) == 0:
                    did(net, ("bring", chance.randrange(len(net.bag()))))
                    self.check_glass(net)
            self.assertGreater(len(net.bag()), 300)
            # All of them come, in any order, behind the settling too, and change no longer what was taken.
            settle(net, 3)
            self.check_glass(net)
            while net.bag():
                self.assertIn(net.deed(("bring", chance.randrange(len(net.bag())))), ("new", "old"))
            self.check_glass(net)
            self.check_settles(net)

    def test_tasks_given_anew(self):
        chance = random.Random(7)
        for works in EACH:
            leader = Leader(works, chance, 0, True)
            for _ in range(4):
                leader.net.deed(("give", leader.some_task()))
                self.assertEqual(lies_told(works, leader.net.glass()), ())
                self.assertIs(says(works, leader.net.house(0).state())[1], False)
                for _ in range(60):
                    leader.step()
                    self.check_glass(leader.net)
                self.check_settles(leader.net)

    def test_all_are_cut_again_and_again(self):
        chance = random.Random(9)
        for works in EACH:
            leader = Leader(works, chance, 5, True)
            net = leader.net
            for _ in range(40):
                for _ in range(6):
                    leader.step()
                for house in range(works.many):
                    disk = net.disk(house)
                    net.deed(("cut", house, tuple(0 for _ in disk.blocks()[disk.synced():])))
                self.check_glass(net)
            self.check_settles(net)

    def test_foreign_rows(self):
        # Rows of other works, or for other houses, are brought to houses that do not hear them.
        net, other = Net(WORKS), Net(THREE)
        led_by(other, [("give", (0, 2)), ("do", 0), ("post", 0, 1), ("post", 0, 2)])
        for to in range(2):
            for _, row in other.bag():
                self.assertEqual(did(net, ("send", to, row)), "can't")
        led_by(net, [("give", (0, 2)), ("do", 0), ("post", 0, 1)])
        to, row = net.bag()[0]
        self.assertEqual(unsealed(row)[0][:3], ("letter", 0, 1))
        before = net.glass()
        for house in (net.house(0), other.house(2)):
            self.assertEqual(house.deed(("hear", row)), "none")
        self.assertEqual(net.glass(), before)

    def test_a_glass_goes_on_as_its_net(self):
        net = Net(THREE)
        led_by(net, [("give", (0, 2)), ("do", 0)])
        glass = net.glass()
        led_by(net, [("post", 0, 0), ("bring", 0)])
        glass = moved(THREE, glass, ("take", 0, 0))
        self.assertEqual(net.glass(), glass)
        led_by(net, [("post", 0, 1), ("bring", 0)])
        glass = moved(THREE, moved(THREE, glass, ("take", 0, 1)), ("take", 0, 1))
        self.assertEqual(net.glass(), glass)


if __name__ == "__main__":
    unittest.main()
