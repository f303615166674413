"""Promise [9.4], with [3.4]: houses whose past lasts."""

import random
import unittest

from knownquiet.disks import Disk, kept_parcels
from knownquiet.errors import NoDeed, NoDisk, NoHouse, NoNumber, OtherHouse
from knownquiet.posts import Post, post_of
from knownquiet.rows import sealed, unsealed
from knownquiet.savings import SavedHouse
from knownquiet.works import Works
from tests.odd import odd_numbers, odd_things
from tests.told import BUSY, EACH, ONE, THREE, WORKS

ANSWER = ("answer",)
GIVE = ("give", (0, 1))


def letter(sender, to, taken, *items):
    return sealed(("letter", sender, to, taken, tuple(items)))


def first(works, number):
    return sealed(("house", works.many, works.rules, number))


def disk_of(*blocks):
    """A Disk with these blocks, all of which wait."""
    disk = Disk()
    for block in blocks:
        disk.write(block)
    return disk


def told(disk):
    return (disk.blocks(), disk.synced())


def after(works, number, deeds):
    """The Post behind deeds."""
    post = Post(works, number)
    for deed in deeds:
        post.deed(deed)
    return post


class NotedTest(unittest.TestCase):
    def test_begun(self):
        for works in EACH:
            for number in range(works.many):
                disk = Disk()
                house = SavedHouse(works, number, disk)
                self.assertIsInstance(house, Post)
                self.assertEqual(house.past(), Post(works, number).past())
                self.assertEqual(told(disk), ([first(works, number)], 1))

    def test_each_deed_that_changes(self):
        disk = Disk()
        house = SavedHouse(WORKS, 0, disk)
        deeds = [GIVE, ("do",), ("pass",), ("picture", 7), ("hear", letter(1, 0, 1, (0, ANSWER)))]
        blocks = [first(WORKS, 0)]
        for deed in deeds:
            self.assertEqual(house.deed(deed), "new" if deed[0] == "hear" else None)
            blocks.append(sealed(("deed", deed)))
            self.assertEqual(told(disk), (blocks, 1))
        self.assertEqual(house.past(), after(WORKS, 0, deeds).past())
        # What changes nothing is not noted: what is none, old, or can't be done.
        for row in [deeds[-1][1], letter(1, 0, 0), letter(1, 0, 9), (1, 2), None, letter(1, 1, 0)]:
            self.assertIn(house.deed(("hear", row)), ("old", "none"))
        for deed in [("do",), ("pass",), ("picture", 7), ("give", (1, 0)), ("keep",), None]:
            with self.assertRaises(NoDeed):
                house.deed(deed)
        self.assertEqual(told(disk), (blocks, 1))
        self.assertEqual(house.letter(1), after(WORKS, 0, deeds).letter(1))
        self.assertEqual(told(disk), (blocks, 6))

    def test_letters_sync(self):
        disk = Disk()
        house = SavedHouse(THREE, 0, disk)
        house.deed(("give", (0, 2)))
        self.assertEqual(disk.synced(), 1)
        for thing in odd_numbers() + [3, -1, 10 ** 19]:
            with self.assertRaises(NoHouse, msg=repr(thing)[:60]):
                house.letter(thing)
            self.assertEqual(disk.synced(), 1)
        house.state(), house.past(), house.part_of(0), house.copy().letter(1)
        self.assertEqual(disk.synced(), 1)
        house.letter(2)
        self.assertEqual(disk.synced(), 2)

    def test_what_a_post_answers(self):
        house, post = SavedHouse(THREE, 1, Disk()), Post(THREE, 1)
        for one in (house, post):
            self.assertEqual(one.deed(("hear", letter(0, 1, 0, (0, ("mark", 3)), (1, ("sign", 0, 0, 0))))), "new")
        self.assertEqual(house.part_of(3), post.part_of(3))
        self.assertIsNone(house.part_of(4))
        self.assertEqual(house.state(), post.state())
        for thing in odd_numbers() + [1000, -1]:
            with self.assertRaises(NoNumber):
                house.part_of(thing)
        for thing in odd_things() + [("do",), ("pass", 0), GIVE]:
            with self.assertRaises(NoDeed):
                house.deed(thing)
        for thing in odd_things():
            self.assertEqual(house.deed(("hear", thing)), "none")

    def test_copies_go_on_apart(self):
        disk = Disk()
        house = SavedHouse(BUSY, 0, disk)
        house.deed(("give", (0, 3)))
        house.deed(("picture", 5))
        past, blocks = house.past(), told(disk)
        other = house.copy()
        self.assertIsInstance(other, Post)
        self.assertEqual(other.past(), past)
        other.deed(("do",))
        other.deed(("picture", 6))
        other.letter(1)
        self.assertEqual((house.past(), told(disk)), (past, blocks))
        late = other.past()
        house.deed(("do",))
        self.assertEqual(other.past(), late)

    def test_past_makes_a_post(self):
        house = SavedHouse(BUSY, 0, Disk())
        for deed in [("give", (0, 3)), ("do",), ("picture", 2)]:
            house.deed(deed)
        post = post_of(BUSY, 0, house.past())
        self.assertEqual((post.past(), post.letter(1), post.letter(3)), (house.past(), house.letter(1), house.letter(3)))

    def test_beside_a_post(self):
        chance = random.Random(4)
        total = 0
        for seed in range(10):
            works = EACH[seed % 5]
            number = chance.randrange(works.many)
            disk = Disk()
            house, post = SavedHouse(works, number, disk), Post(works, number)
            blocks, synced = [first(works, number)], 1
            for deed in some_deeds(works, number, chance, 200):
                past = post.past()
                self.assertEqual(self.did(house, deed), self.did(post, deed))
                if post.past() != past:
                    blocks.append(sealed(("deed", deed)))
                if chance.randrange(9) == 0:
                    to = chance.randrange(works.many)
                    self.assertEqual(house.letter(to), post.letter(to))
                    synced = len(blocks)
                self.assertEqual((house.past(), house.state()), (post.past(), post.state()))
                self.assertEqual(told(disk), (blocks, synced))
            total += len(blocks)
            self.assertEqual(SavedHouse(works, number, disk.copy()).past(), post.past())
        self.assertGreater(total, 400)

    def did(self, post, deed):
        try:
            return post.deed(deed)
        except NoDeed:
            return "can't"


def some_deeds(works, number, chance, many):
    """Deeds of a house, some of which can't be done, with letters that others might have written."""
    peers = [Post(works, house) for house in range(works.many)]
    for _ in range(many):
        what = chance.randrange(8)
        peer = peers[chance.randrange(works.many)]
        deed = chance.choice([("do",), ("pass",), ("give", (0, chance.randrange(4))), ("picture", chance.randrange(60))])
        if what < 4:
            yield deed
            with_or_without(peers[number], deed)
        elif what < 6:
            row = peer.letter(number)
            yield ("hear", row if chance.randrange(9) else row[:-1])
            peers[number].deed(("hear", row))
        else:
            with_or_without(peer, chance.choice([("do",), ("do",), ("pass",), deed]))
            peer.deed(("hear", peers[number].letter(peer.number)))


def with_or_without(post, deed):
    try:
        post.deed(deed)
    except NoDeed:
        pass


class MadeTest(unittest.TestCase):
    def test_errors_in_order(self):
        other = disk_of(first(WORKS, 1))
        for thing in odd_numbers() + [2, -1, 10 ** 19]:
            for disk in (Disk(), other, None):
                with self.assertRaises(NoHouse, msg=repr(thing)[:60]):
                    SavedHouse(WORKS, thing, disk)
        for thing in odd_things() + [[], (), first(WORKS, 0), Disk, [Disk()]]:
            with self.assertRaises(NoDisk, msg=repr(thing)[:60]):
                SavedHouse(WORKS, 0, thing)
        with self.assertRaises(OtherHouse):
            SavedHouse(WORKS, 0, other)
        self.assertEqual(told(other), ([first(WORKS, 1)], 0))

    def test_other_house(self):
        mine = ("house", 2, WORKS.rules, 0)
        others = [
            ("house", 2, WORKS.rules, 1), ("house", 3, WORKS.rules, 0), ("house", 2, (((0, 0),),), 0), ("house", 2, (), 0),
            ("house", None, None, None), ("house", 2, WORKS.rules, -1), ("house", True, False, ()), ("house", (), "a", 0),
            ("house", 2, (((True, 0),),), 0), ("house", 2, (((1, False),),), 0), ("house", 2, WORKS.rules, False),
        ]
        for parcel in others:
            for disk in (disk_of(sealed(parcel)), disk_of(sealed(parcel), sealed(("deed", GIVE)), (1, 2))):
                before = told(disk)
                with self.assertRaises(OtherHouse):
                    SavedHouse(WORKS, 0, disk)
                self.assertEqual(told(disk), before)
        self.assertEqual(SavedHouse(WORKS, 0, disk_of(sealed(mine))).past(), Post(WORKS, 0).past())

    def test_sealed_of_none(self):
        deed = sealed(("deed", GIVE))
        good = first(WORKS, 0)
        for block in [
            (), (0,), good[:-1], good + (0,), good[1:], (good[0] + 1,) + good[1:], sealed(None), sealed("house"), sealed(()),
            sealed(("house",)), sealed(("house", 2, WORKS.rules)), sealed(("house", 2, WORKS.rules, 1, 0)), deed,
            sealed(("House", 2, WORKS.rules, 1)), sealed((None, 2, WORKS.rules, 1)), sealed(("past", Post(WORKS, 0).past())),
            sealed((("house",), 2, WORKS.rules, 0)), first(WORKS, 1)[:-1], good[:-4],
        ]:
            for rest in ((), (deed,), (good,), (good, deed), (first(WORKS, 1), deed)):
                disk = disk_of(block, *rest)
                house = SavedHouse(WORKS, 0, disk)
                self.assertEqual(house.past(), Post(WORKS, 0).past())
                self.assertEqual(told(disk), ([good], 1))

    def test_goes_on(self):
        deeds = [GIVE, ("do",), ("picture", 1), ("hear", letter(1, 0, 1, (0, ANSWER)))]
        blocks = [first(WORKS, 0)] + [sealed(("deed", deed)) for deed in deeds]
        for many in range(1, 6):
            disk = disk_of(*blocks[:many])
            house = SavedHouse(WORKS, 0, disk)
            self.assertEqual(house.past(), after(WORKS, 0, deeds[:many - 1]).past())
            self.assertEqual(told(disk), (blocks[:many], many))
        # It goes on with the very disk.
        house.deed(("pass",))
        self.assertEqual(disk.blocks(), blocks + [sealed(("deed", ("pass",)))])

    def test_blocks_that_are_none(self):
        deeds = [GIVE, ("picture", 1), ("hear", letter(1, 0, 0, (0, ("mark", 1))))]
        good = [first(WORKS, 0)] + [sealed(("deed", deed)) for deed in deeds]
        past, last = after(WORKS, 0, deeds).past(), sealed(("deed", ("do",)))
        parcels = [
            None, (), "deed", ("deed",), ("deed", ("do",), 0), ("Deed", ("do",)), (("deed",), ("do",)), ("past", ("do",)),
            ("deed", None), ("deed", ()), ("deed", "do"), ("deed", ("Do",)), ("deed", ("do", 0)), ("deed", ("pass",)),
            ("deed", ("picture", 1)), ("deed", ("picture", 1000)), ("deed", ("give", (1, 0))), ("deed", ("give", (False, 0))),
            ("deed", deeds[2]), ("deed", ("hear", letter(1, 0, 0))), ("deed", ("hear", ())), ("deed", ("hear", None)),
            ("deed", ("hear",)), ("deed", ("hear", letter(1, 0, 9))), ("past", None), ("past", past[:3]), ("past", past + ((),)),
            ("past", (past[0][:1] + (1,) + past[0][2:],) + past[1:]), ("past", after(THREE, 0, []).past()), ("past",),
            ("past", past, past), ("Past", past), ("deed", past), (None, past), (past, "past"),
            ("past", (past[0][:5] + (0,) + past[0][6:],) + past[1:]), ("house", 2, WORKS.rules, 0), ("keep",), 5,
            ("past", (past[0][:2] + (True,) + past[0][3:],) + past[1:]),
        ]
        bad = [sealed(parcel) for parcel in parcels] + [(), (1, 2), last[:-1], last + (0,), last[:-4], last[1:], (7,) * 20]
        for block in bad:
            for rest in ((), (last,), (block, last), (sealed(("past", past)),)):
                disk = disk_of(*good, block, *rest)
                house = SavedHouse(WORKS, 0, disk)
                self.assertEqual(house.past(), past)
                self.assertEqual(told(disk), (good, 4))
            if unsealed(block) in [(("deed", deed),) for deed in deeds]:
                continue
            disk = disk_of(good[0], block, *good[1:])
            self.assertEqual(SavedHouse(WORKS, 0, disk).past(), Post(WORKS, 0).past())
            self.assertEqual(told(disk), (good[:1], 1))
        self.assertEqual(SavedHouse(WORKS, 0, disk_of(*good, last)).past(), after(WORKS, 0, deeds + [("do",)]).past())

    def test_deeds_of_other_houses(self):
        disk = disk_of(first(WORKS, 1), sealed(("deed", GIVE)))
        self.assertEqual(SavedHouse(WORKS, 1, disk).past(), Post(WORKS, 1).past())
        self.assertEqual(disk.blocks(), [first(WORKS, 1)])

    def test_pasts(self):
        one, other = after(WORKS, 0, [GIVE, ("do",)]).past(), after(WORKS, 0, [("picture", 4)]).past()
        block = [sealed(("past", past)) for past in (one, other)]
        deed = sealed(("deed", ("pass",)))
        for blocks, past in [
            ([block[0]], one), ([block[0], block[1]], other), ([block[1], block[0]], one), ([block[0], block[0]], one),
            ([sealed(("deed", GIVE)), block[0]], one), ([block[0], deed], after(WORKS, 0, [GIVE, ("do",), ("pass",)]).past()),
            ([block[0], deed, block[1]], other),
        ]:
            disk = disk_of(first(WORKS, 0), *blocks)
            self.assertEqual(SavedHouse(WORKS, 0, disk).past(), past)
            self.assertEqual(told(disk), ([first(WORKS, 0)] + blocks, len(blocks) + 1))
        # A deed that the house could not do ahead of a past: the past is behind it, and dropped too.
        disk = disk_of(first(WORKS, 0), sealed(("deed", ("do",))), block[0])
        self.assertEqual(SavedHouse(WORKS, 0, disk).past(), Post(WORKS, 0).past())
        self.assertEqual(disk.blocks(), [first(WORKS, 0)])


class KeepTest(unittest.TestCase):
    def test_keep(self):
        disk = Disk()
        house = SavedHouse(BUSY, 0, disk)
        deeds = [("give", (0, 2)), ("do",), ("picture", 9)]
        blocks = [first(BUSY, 0)]
        for deed in deeds:
            house.deed(deed)
            blocks += [sealed(("deed", deed)), sealed(("past", house.past()))]
            self.assertEqual(house.keep(), len(blocks))
            self.assertEqual(told(disk), (blocks, len(blocks)))
        self.assertEqual(house.keep(), 8)
        self.assertEqual(told(disk), (blocks + blocks[-1:], 8))
        self.assertEqual(SavedHouse(BUSY, 0, disk.copy()).past(), house.past())
        self.assertEqual(house.past(), after(BUSY, 0, deeds).past())

    def test_moved(self):
        disk, target = Disk(), Disk()
        house = SavedHouse(BUSY, 0, disk)
        deeds = [("give", (0, 2)), ("do",), ("picture", 9)]
        for deed in deeds:
            house.deed(deed)
        before = told(disk)
        other = house.moved(target)
        self.assertIsInstance(other, SavedHouse)
        self.assertEqual(other.past(), house.past())
        self.assertEqual(told(target), ([first(BUSY, 0), sealed(("past", house.past()))], 2))
        self.assertEqual(told(disk), before)
        # Both go on apart, each with its disk.
        other.deed(("give", (1, 1)))
        self.assertEqual(target.blocks()[2:], [sealed(("deed", ("give", (1, 1))))])
        self.assertEqual(told(disk), before)
        house.deed(("picture", 3))
        self.assertEqual(len(target.blocks()), 3)
        self.assertEqual(SavedHouse(BUSY, 0, target.copy()).past(), other.past())

    def test_no_disk(self):
        disk = Disk()
        house = SavedHouse(BUSY, 0, disk)
        house.deed(("picture", 9))
        before = told(disk)
        for thing in odd_things() + [Disk, [Disk()], disk, disk.copy(), disk_of(()), disk_of(first(BUSY, 0)), None]:
            with self.assertRaises(NoDisk, msg=repr(thing)[:60]):
                house.moved(thing)
        full = disk_of((1,), (2,))
        full.sync()
        with self.assertRaises(NoDisk):
            house.moved(full)
        self.assertEqual((told(full), told(disk)), (([(1,), (2,)], 2), before))
        full.drop(0)
        self.assertEqual(house.moved(full).past(), house.past())


class JournalTest(unittest.TestCase):
    """THE FACT OF JOURNALS: wherever a disk is cut, the house is the Post behind a beginning of its deeds."""

    def test_each_byte_of_a_block(self):
        deeds = [("give", (0, 2)), ("do",), ("picture", 9), ("hear", letter(1, 0, 1, (0, ANSWER), (1, ("mark", 9))))]
        house = SavedHouse(WORKS, 0, Disk())
        pasts = [house.past()]
        for deed in deeds:
            house.deed(deed)
            pasts.append(house.past())
        blocks = [first(WORKS, 0)] + [sealed(("deed", deed)) for deed in deeds]
        for at, block in enumerate(blocks):
            for many in range(len(block) + 1):
                for rest in (0, 10 ** 3):
                    disk = disk_of(*blocks)
                    kept = [len(row) for row in blocks]
                    kept[at] = many
                    kept[at + 1:] = [min(rest, len(row)) for row in blocks[at + 1:]]
                    disk.cut(tuple(kept))
                    whole = at if many < len(block) else (len(blocks) if rest else at + 1)
                    found = SavedHouse(WORKS, 0, disk)
                    self.assertEqual(found.past(), pasts[max(0, whole - 1)])
                    self.assertEqual(told(disk), (blocks[:max(1, whole)], max(1, whole)))

    def test_a_past_that_is_cut(self):
        house = SavedHouse(WORKS, 0, Disk())
        for deed in [("give", (0, 2)), ("do",)]:
            house.deed(deed)
        blocks = [first(WORKS, 0), sealed(("deed", ("give", (0, 2)))), sealed(("deed", ("do",))), sealed(("past", house.past()))]
        for many in range(len(blocks[3])):
            disk = disk_of(*blocks)
            disk.cut(tuple([len(row) for row in blocks[:3]] + [many]))
            self.assertEqual(SavedHouse(WORKS, 0, disk).past(), house.past())
            self.assertEqual(disk.blocks(), blocks[:3])
        moved = disk_of(blocks[0], blocks[3][:-1])
        self.assertEqual(SavedHouse(WORKS, 0, moved).past(), Post(WORKS, 0).past())

    def test_several_cuts(self):
        chance = random.Random(6)
        cuts, lost = 0, 0
        for seed in range(12):
            works = EACH[seed % 5]
            number = 0 if seed < 6 else chance.randrange(works.many)
            disk = Disk()
            house = SavedHouse(works, number, disk)
            # The deeds that changed it since it was made, and how many it had done ahead of its last letter.
            done, firm = [], 0
            for deed in some_deeds(works, number, chance, 120):
                if chance.randrange(10) == 0:
                    house.letter(chance.randrange(works.many))
                    firm = len(done)
                if chance.randrange(40) == 0:
                    house.keep()
                    firm = len(done)
                if chance.randrange(12) == 0:
                    waiting = disk.blocks()[disk.synced():]
                    disk.cut(tuple(chance.randint(0, len(row)) if chance.randrange(2) else len(row) for row in waiting))
                    house = SavedHouse(works, number, disk)
                    many = [at for at in range(len(done) + 1) if after(works, number, done[:at]).past() == house.past()]
                    self.assertTrue(many)
                    self.assertGreaterEqual(many[-1], firm)
                    cuts, lost = cuts + 1, lost + (many[-1] < len(done))
                    done = done[:many[-1]]
                    firm = len(done)
                past = house.past()
                with_or_without(house, deed)
                if house.past() != past:
                    done.append(deed)
            self.assertEqual(house.past(), after(works, number, done).past())
            found = [parcel[0] for parcel in kept_parcels(disk.blocks())]
            self.assertEqual((found[0], len(found)), ("house", len(disk.blocks())))
        self.assertGreater(cuts, 50)
        self.assertGreater(lost, 10)

    def test_letters_are_true_behind_cuts(self):
        """No link tells two things under one number, nothing that was told to be taken is taken again."""
        chance = random.Random(8)
        for seed in range(6):
            works = (WORKS, THREE, ONE)[seed % 3]
            disks = [Disk() for _ in range(works.many)]
            houses = [SavedHouse(works, number, disk) for number, disk in enumerate(disks)]
            words, taken, bag = {}, {}, []
            for _ in range(250):
                number, to = chance.randrange(works.many), chance.randrange(works.many)
                what = chance.randrange(8)
                if what < 3:
                    picture = ("picture", chance.randrange(3))
                    with_or_without(houses[number], chance.choice([("do",), ("pass",), ("give", (0, 2)), picture]))
                elif what < 5:
                    row = houses[number].letter(to)
                    _, _, _, many, items = unsealed(row)[0]
                    for at, word in items:
                        self.assertEqual(words.setdefault((number, to, at), word), word)
                    self.assertGreaterEqual(many, taken.get((number, to), 0))
                    taken[(number, to)] = many
                    bag.append((to, row))
                elif what < 7 and bag:
                    to, row = bag[chance.randrange(len(bag))]
                    houses[to].deed(("hear", row))
                elif chance.randrange(3) == 0:
                    waiting = disks[number].blocks()[disks[number].synced():]
                    disks[number].cut(tuple(chance.randint(0, len(row)) for row in waiting))
                    houses[number] = SavedHouse(works, number, disks[number])


class KindTest(unittest.TestCase):
    def test_equal_to_itself_alone(self):
        house = SavedHouse(WORKS, 0, Disk())
        self.assertTrue(house == house)
        for thing in odd_things() + [Post(WORKS, 0), house.past(), house.copy()]:
            self.assertFalse(house == thing)

    def test_other_works_that_are_equal(self):
        disk = Disk()
        SavedHouse(WORKS, 0, disk).deed(GIVE)
        again = SavedHouse(Works(2, (((1, 0),),)), 0, disk)
        self.assertEqual(again.past(), after(WORKS, 0, [GIVE]).past())


if __name__ == "__main__":
    unittest.main()
