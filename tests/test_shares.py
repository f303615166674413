"""Shares: point 3.1, what it says of shares."""

import random
import unittest
from fractions import Fraction

from knownquiet.errors import NoShare
from knownquiet.shares import half, sum_of
from tests.odd import nested, odd_things

NO_SHARES = [
    (0, 1), (0, 0), (0, 5), (1, 1), (2, 1), (1, 2, 2), (1, 3, 2), (3, 2, 1), (-1,), (-1, 1), (-2, -1), (True,), (False,),
    (1, True), (False, 1), (1, None), ("1",), ((1,),), (1, (2,)), [1], [], [0], {1: True}, {}, "", "1", b"\x01", 0, 1,
    range(1, 3), None, (1, [2]), nested(40, 1, lambda inner: (inner,)), (10 ** 19, 5),
]


def worth(share):
    return sum([Fraction(1, 2 ** number) for number in share], Fraction(0))


def share_worth(left):
    """The share that is worth so much, found from the greatest part on."""
    if left == 1:
        return (0,)
    found, number = [], 1
    while left > 0:
        if Fraction(1, 2 ** number) <= left:
            found.append(number)
            left -= Fraction(1, 2 ** number)
        number += 1
    return tuple(found)


class SharesTest(unittest.TestCase):
    def test_examples(self):
        self.assertEqual(half((1,)), (2,))
        self.assertEqual(sum_of((1,), (1,)), (0,))
        self.assertEqual(sum_of((2,), (1,)), (1, 2))

    def test_half(self):
        self.assertEqual(half((0,)), (1,))
        self.assertEqual(half((1, 2, 7)), (2, 3, 8))
        self.assertEqual(half((99999999999999999999,)), (100000000000000000000,))
        for share in ((0,), (1,), (3, 4), tuple(range(1, 400)), (1, 1000)):
            self.assertEqual(sum_of(half(share), half(share)), share)
            self.assertEqual(worth(half(share)) * 2, worth(share))

    def test_half_of_none(self):
        with self.assertRaises(NoShare):
            half(())

    def test_sums_by_their_worth(self):
        chance = random.Random(1)
        for _ in range(1500):
            most = chance.choice([2, 4, 9, 40])
            one, other = [
                tuple(sorted(chance.sample(range(1, most + 1), chance.randint(0, most)))) for _ in range(2)
            ]
            whole = worth(one) + worth(other)
            if whole > 1:
                with self.assertRaises(NoShare):
                    sum_of(one, other)
            else:
                self.assertEqual(sum_of(one, other), share_worth(whole))

    def test_nothing_and_the_whole(self):
        for share in ((), (0,), (1,), (4, 9), (10 ** 19,)):
            self.assertEqual(sum_of((), share), share)
            self.assertEqual(sum_of(share, ()), share)
        for one, other in [((0,), (0,)), ((0,), (1,)), ((1,), (0,)), ((0,), (10 ** 19,)), ((99,), (0,))]:
            with self.assertRaises(NoShare):
                sum_of(one, other)

    def test_chains(self):
        for many in (1, 2, 3, 500):
            chain = tuple(range(1, many + 1))
            self.assertEqual(sum_of(chain, (many,)), (0,))
            self.assertEqual(sum_of((many,), chain), (0,))
            with self.assertRaises(NoShare):
                sum_of(chain, (many, many + 1))
            self.assertEqual(sum_of(chain, (many + 1,)), chain + (many + 1,))
        self.assertEqual(sum_of((2, 3, 4), (4,)), (1,))
        self.assertEqual(sum_of((2, 4), (2, 4)), (1, 3))
        self.assertEqual(sum_of((10 ** 19,), (10 ** 19,)), (10 ** 19 - 1,))

    def test_long_shares(self):
        odd = tuple(range(1, 900, 2))
        even = tuple(range(2, 900, 2))
        self.assertEqual(sum_of(odd, even), tuple(range(1, 900)))
        self.assertEqual(sum_of(even, even), odd[:-1])
        self.assertEqual(sum_of(sum_of(odd, even), (899,)), (0,))
        with self.assertRaises(NoShare):
            sum_of(odd, odd)

    def test_more_than_the_whole(self):
        for one, other in [((1,), (1, 2)), ((1, 2), (1,)), ((1, 2), (1, 2)), ((1, 2, 3), (1, 2, 3)), ((1, 3), (1, 9))]:
            with self.assertRaises(NoShare):
                sum_of(one, other)

    def test_what_is_no_share(self):
        for thing in NO_SHARES + odd_things():
            with self.assertRaises(NoShare, msg=repr(thing)[:60]):
                half(thing)
            with self.assertRaises(NoShare):
                sum_of(thing, (1,))
            with self.assertRaises(NoShare):
                sum_of((1,), thing)
            with self.assertRaises(NoShare):
                sum_of((), thing)
            with self.assertRaises(NoShare):
                sum_of(thing, thing)


if __name__ == "__main__":
    unittest.main()
