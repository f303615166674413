"""The examples e01 to e08, as the document gives them."""

import unittest

from knownquiet.causes import causes, least_quiet, vectors
from knownquiet.links import Incoming
from knownquiet.records import Record, first_wrong, quiet_from
from knownquiet.rows import row_of
from knownquiet.shares import half, sum_of
from knownquiet.states import begun, gifted
from knownquiet.works import (
    Works, done_by, first_standing, longest_way, many_tasks, plain_run, sent_by, still_to_do, tasks_of,
)

WORKS = Works(2, (((1, 0),),))


class ExamplesTest(unittest.TestCase):
    def test_e01(self):
        self.assertEqual(sent_by(WORKS, 1, (0, 3)), ((0, (0, 2)),))
        self.assertEqual(tasks_of(WORKS, 0, (0, 3)), (2, 2))
        self.assertEqual(many_tasks(WORKS, (0, 3)), 4)
        self.assertEqual(longest_way(WORKS, (0, 3)), 4)

    def test_e02(self):
        first = first_standing(WORKS, ((0, 1),))
        self.assertEqual(first, ((((0, 1),), ()), ()))
        self.assertEqual(done_by(WORKS, first, 0), (((), ()), ((0, 1, ((0, 0),)),)))
        self.assertEqual(still_to_do(WORKS, first), 2)

    def test_e03(self):
        self.assertEqual(plain_run(WORKS, ((0, 2),)), [(0, (0, 2)), (1, (0, 1)), (0, (0, 0))])

    def test_e04(self):
        end = Incoming()
        self.assertEqual(end.take(1, ("b",)), [])
        self.assertEqual(end.held(), (1,))
        self.assertEqual(end.take(0, ("a",)), [("a",), ("b",)])
        self.assertEqual(end.taken(), 2)

    def test_e05(self):
        self.assertEqual(half((1,)), (2,))
        self.assertEqual(sum_of((1,), (1,)), (0,))
        self.assertEqual(sum_of((2,), (1,)), (1, 2))

    def test_e06(self):
        state = (((0, 1),), 0, 0, 0, 0, False, (0, 0, 0), (0,), False)
        self.assertEqual(gifted(WORKS, begun(WORKS, 0), (0, 1)), (state, ()))

    def test_e07(self):
        events = (("do", 0), ("say", 0, "ring"), ("hear", 1, 0), ("do", 1), ("say", 0, "tree"))
        record = Record(WORKS, ((0, 1),), events)
        self.assertEqual(first_wrong(record), (1, "lie"))
        self.assertEqual(quiet_from(record), 4)
        self.assertEqual(causes(record), ((), (0,), (0,), (2,), (1,)))
        self.assertEqual(vectors(record), ((1, 0), (2, 0), (1, 1), (1, 2), (3, 0)))
        self.assertEqual(least_quiet(record), (1, 2))

    def test_e08(self):
        self.assertEqual(row_of((True, "a", 300)), (6, 3, 2, 5, 1, 97, 3, 172, 2))


if __name__ == "__main__":
    unittest.main()
