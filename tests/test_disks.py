"""Promise [9.3]: disks."""

import random
import unittest

from knownquiet.disks import Disk, kept_parcels
from knownquiet.errors import NoBlocks, NoCut, NoNumber, NoRow
from knownquiet.rows import is_parcel, row_of, sealed
from tests.odd import nested, odd_numbers, odd_things


def plain_row(thing):
    """Whether an odd thing is a row after all."""
    return isinstance(thing, tuple) and all(isinstance(item, int) and item is not True for item in thing) and -1 not in thing


def told(disk):
    return (disk.blocks(), disk.synced())


def disk_of(synced, waiting):
    """A Disk with these blocks, of which the latter wait."""
    disk = Disk()
    for row in synced:
        disk.write(row)
    disk.sync()
    for row in waiting:
        disk.write(row)
    return disk


class DiskTest(unittest.TestCase):
    def test_begun(self):
        disk = Disk()
        self.assertEqual(told(disk), ([], 0))
        self.assertEqual(disk.sync(), 0)
        disk.cut(())
        disk.drop(0)
        self.assertEqual(told(disk), ([], 0))

    def test_write_and_sync(self):
        disk = Disk()
        self.assertEqual([disk.write((1, 2)), disk.write(()), disk.write((255, 0))], [0, 1, 2])
        self.assertEqual(told(disk), ([(1, 2), (), (255, 0)], 0))
        self.assertEqual(disk.sync(), 3)
        self.assertEqual(told(disk), ([(1, 2), (), (255, 0)], 3))
        self.assertEqual(disk.write((1, 2)), 3)
        self.assertEqual(told(disk), ([(1, 2), (), (255, 0), (1, 2)], 3))
        self.assertEqual([disk.sync(), disk.sync()], [1, 0])
        self.assertEqual(disk.synced(), 4)

    def test_no_row(self):
        disk = disk_of([(1,)], [(2,)])
        wrong = [[1, 2], (256,), (-1,), (True,), (0, False), (None,), "ab", b"ab", ((1,),), ("1",), (0, 10 ** 19), None, 0]
        for thing in wrong + [thing for thing in odd_things() if not plain_row(thing)]:
            with self.assertRaises(NoRow, msg=repr(thing)[:60]):
                disk.write(thing)
            self.assertEqual(told(disk), ([(1,), (2,)], 1))

    def test_cut(self):
        rows = [(1, 2, 3), (), (4,), (5, 6)]
        for kept, there in [
            ((3, 0, 1, 2), rows), ((0, 0, 0, 0), [()] * 4), ((1, 0, 1, 0), [(1,), (), (4,), ()]),
            ((2, 0, 0, 1), [(1, 2), (), (), (5,)]), ((0, 0, 1, 2), [(), (), (4,), (5, 6)]),
        ]:
            disk = disk_of([(9, 9), (8,)], rows)
            self.assertIsNone(disk.cut(kept))
            self.assertEqual(told(disk), ([(9, 9), (8,)] + there, 6))
            self.assertEqual(disk.sync(), 0)
            disk.cut(())
            self.assertEqual(disk.write((7,)), 6)
            disk.cut((0,))
            self.assertEqual(told(disk), ([(9, 9), (8,)] + there + [()], 7))

    def test_no_cut(self):
        disk = disk_of([(9, 9)], [(1, 2, 3), (), (4,)])
        wrong = [
            (), (3, 0), (3, 0, 1, 0), (2, 3, 0, 1), [3, 0, 1], (4, 0, 1), (3, 1, 1), (3, 0, 2), (-1, 0, 1), (3, 0, -1),
            (True, 0, 1), (3, False, 1), (None, 0, 1), (3, 0, "1"), (3, 0, (1,)), "301", b"\x03\x00\x01", {0: 3}, None,
            (10 ** 19, 0, 1), ((3, 0, 1),), 3,
        ]
        for thing in wrong + odd_things() + [(3, 0, thing) for thing in odd_numbers()]:
            with self.assertRaises(NoCut, msg=repr(thing)[:60]):
                disk.cut(thing)
            self.assertEqual(told(disk), ([(9, 9), (1, 2, 3), (), (4,)], 1))
        for thing in [(0,), (0, 0)] + [thing for thing in odd_things() if thing != ()]:
            with self.assertRaises(NoCut):
                disk_of([(1,)], []).cut(thing)

    def test_drop(self):
        for number in range(6):
            disk = disk_of([(1,), (2,), (3,)], [(4,), (5,)])
            self.assertIsNone(disk.drop(number))
            self.assertEqual(told(disk), ([(1,), (2,), (3,), (4,), (5,)][:number], min(number, 3)))
            self.assertEqual(disk.sync(), max(0, number - 3))
            self.assertEqual(disk.write((6,)), number)
            self.assertEqual(disk.synced(), number)

    def test_no_number(self):
        disk = disk_of([(1,), (2,)], [(4,)])
        for thing in odd_numbers() + [4, -1, 10 ** 19]:
            with self.assertRaises(NoNumber, msg=repr(thing)[:60]):
                disk.drop(thing)
            self.assertEqual(told(disk), ([(1,), (2,), (4,)], 2))

    def test_copies_go_on_apart(self):
        disk = disk_of([(1,), (2,)], [(3, 4)])
        other = disk.copy()
        self.assertIsInstance(other, Disk)
        self.assertEqual(told(other), told(disk))
        other.write((5,))
        other.cut((1, 0))
        self.assertEqual(told(other), ([(1,), (2,), (3,), ()], 4))
        self.assertEqual(told(disk), ([(1,), (2,), (3, 4)], 2))
        late = other.copy()
        disk.drop(0)
        disk.sync()
        self.assertEqual(told(other), told(late))
        other.drop(1)
        self.assertEqual((told(disk), told(late)), (([], 0), ([(1,), (2,), (3,), ()], 4)))

    def test_lists_are_new(self):
        disk = disk_of([(1,)], [(2,)])
        blocks = disk.blocks()
        blocks.append((3,))
        blocks[0] = None
        self.assertEqual(told(disk), ([(1,), (2,)], 1))

    def test_equal_to_itself_alone(self):
        disk = Disk()
        self.assertTrue(disk == disk)
        for thing in odd_things() + [[], ([], 0)]:
            self.assertFalse(disk == thing)

    def test_by_chance(self):
        chance = random.Random(3)
        for _ in range(40):
            disk, blocks, firm = Disk(), [], 0
            for _ in range(60):
                what = chance.randrange(8)
                if what < 4:
                    row = tuple(chance.randrange(256) for _ in range(chance.randrange(5)))
                    self.assertEqual(disk.write(row), len(blocks))
                    blocks.append(row)
                elif what == 4:
                    self.assertEqual(disk.sync(), len(blocks) - firm)
                    firm = len(blocks)
                elif what == 5:
                    kept = [chance.randint(0, len(row)) for row in blocks[firm:]]
                    disk.cut(tuple(kept))
                    blocks[firm:] = [row[:many] for row, many in zip(blocks[firm:], kept)]
                    firm = len(blocks)
                elif what == 6 and chance.randrange(3) == 0:
                    number = chance.randint(0, len(blocks))
                    disk.drop(number)
                    blocks, firm = blocks[:number], min(firm, number)
                else:
                    disk = disk.copy()
                self.assertEqual(told(disk), (blocks, firm))


class KeptParcelsTest(unittest.TestCase):
    def test_as_far_as_sealed(self):
        parcels = [None, 5, ("a", (True, -3)), (), "past"]
        rows = [sealed(parcel) for parcel in parcels]
        for kind in (list, tuple):
            self.assertEqual(kept_parcels(kind(rows)), parcels)
            self.assertEqual(kept_parcels(kind()), [])
            for at in range(5):
                for bad in [(), (0,), row_of(parcels[at]), rows[at][:-1], rows[at] + (0,), (7,) * 9]:
                    self.assertEqual(kept_parcels(kind(rows[:at] + [bad] + rows[at + 1:])), parcels[:at])
        self.assertEqual(repr(kept_parcels([sealed(True), sealed(1), sealed((False, 0))])), "[True, 1, (False, 0)]")

    def test_each_beginning_of_a_block(self):
        rows = [sealed(("deed", ("do",))), sealed(("past", (1, 300)))]
        for many in range(len(rows[1])):
            self.assertEqual(kept_parcels([rows[0], rows[1][:many], rows[0]]), [("deed", ("do",))])
        for many in range(len(rows[0])):
            self.assertEqual(kept_parcels([rows[0][:many], rows[1]]), [])

    def test_of_a_disk(self):
        disk = disk_of([sealed(1), sealed(2)], [sealed(3), sealed(4)])
        self.assertEqual(kept_parcels(disk.blocks()), [1, 2, 3, 4])
        disk.cut((len(sealed(3)) - 1, len(sealed(4))))
        self.assertEqual(kept_parcels(disk.blocks()), [1, 2])

    def test_no_blocks(self):
        rows = [sealed(1), sealed(2)]
        for thing in odd_things() + ["", b"", b"ab", {}, {0: ()}, range(2), None, 0]:
            if not isinstance(thing, (list, tuple)) or not all(plain_row(row) for row in thing):
                with self.assertRaises(NoBlocks, msg=repr(thing)[:60]):
                    kept_parcels(thing)
        for thing in [None, [1], (256,), (-1,), (True,), "ab", ((1,),), 0] + odd_things():
            if not plain_row(thing):
                for blocks in ([thing], rows + [thing], [(), thing] + rows, tuple(rows) + (thing,)):
                    with self.assertRaises(NoBlocks, msg=repr(thing)[:60]):
                        kept_parcels(blocks)
        self.assertEqual(kept_parcels([(), (1,)]), [])
        with self.assertRaises(NoBlocks):
            kept_parcels(nested(40, (), lambda inner: [inner]))

    def test_argument_is_not_changed(self):
        rows = [sealed(1), (), sealed(2)]
        found = kept_parcels(rows)
        found.append(9)
        self.assertEqual((rows, kept_parcels(rows)), ([sealed(1), (), sealed(2)], [1]))
        self.assertTrue(is_parcel(tuple(kept_parcels(rows))))


if __name__ == "__main__":
    unittest.main()
