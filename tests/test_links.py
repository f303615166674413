"""Promise [2.1]: links."""

import random
import unittest

from knownquiet.errors import NoNumber, NoState
from knownquiet.links import Incoming, Outgoing, incoming_of, outgoing_of
from tests.odd import nested, odd_numbers, odd_things

FAR = 2 ** 32
A, B, C, D = ("a",), ("b", 1), (True, None, (-5, ("",))), ()
THINGS = (A, B, C, D, ((),), ((((), 0),), False), ("a\nb" * 6000, 10 ** 19, -(10 ** 19)), (0,) * 19000)


def is_plain(thing):
    """Whether an odd object is a thing all the same, told apart from the program."""
    if not isinstance(thing, tuple):
        return False
    return all(item is None or isinstance(item, (int, str)) or is_plain(item) for item in thing)


def filled(many):
    """An Outgoing at which so many things were put."""
    end = Outgoing()
    for number in range(many):
        end.put((number,))
    return end


class OutgoingTest(unittest.TestCase):
    def test_new(self):
        end = Outgoing()
        self.assertEqual((end.many_put(), end.waiting(), end.state()), (0, [], (0, ())))
        self.assertEqual(end.known(0), 0)

    def test_put(self):
        end = Outgoing()
        for number, thing in enumerate(THINGS):
            self.assertEqual(end.put(thing), number)
            self.assertEqual(end.many_put(), number + 1)
        self.assertEqual(end.waiting(), list(enumerate(THINGS)))
        self.assertEqual(end.state(), (0, THINGS))
        self.assertIsInstance(end.waiting(), list)
        self.assertIsInstance(end.waiting()[0], tuple)

    def test_known(self):
        end = filled(5)
        self.assertEqual(end.known(2), 2)
        self.assertEqual(end.waiting(), [(2, (2,)), (3, (3,)), (4, (4,))])
        self.assertEqual(end.state(), (2, ((2,), (3,), (4,))))
        self.assertEqual(end.many_put(), 5)
        self.assertEqual(end.put(A), 5)
        self.assertEqual(end.known(3), 1)
        self.assertEqual(end.known(6), 3)
        self.assertEqual((end.waiting(), end.state(), end.many_put()), ([], (6, ()), 6))
        self.assertEqual(end.put(B), 6)
        self.assertEqual(end.waiting(), [(6, B)])

    def test_lesser_than_ahead(self):
        end = filled(5)
        end.known(3)
        for number in (0, 1, 2, 3):
            self.assertEqual(end.known(number), 0)
            self.assertEqual(end.state(), (3, ((3,), (4,))))

    def test_no_number(self):
        end = filled(3)
        end.known(1)
        for number in odd_numbers() + [4, 5, 10 ** 19, -1]:
            with self.assertRaises(NoNumber):
                end.known(number)
            self.assertEqual((end.state(), end.many_put()), ((1, ((1,), (2,))), 3))

    def test_lists_are_new(self):
        end = filled(2)
        end.waiting().clear()
        self.assertEqual(end.waiting(), [(0, (0,)), (1, (1,))])
        self.assertEqual(end.many_put(), 2)

    def test_copy(self):
        end = filled(3)
        end.known(1)
        other = end.copy()
        self.assertIsInstance(other, Outgoing)
        self.assertEqual(other.state(), end.state())
        other.put(A)
        self.assertEqual(end.state(), (1, ((1,), (2,))))
        end.known(3)
        self.assertEqual(end.put(B), 3)
        self.assertEqual(other.state(), (1, ((1,), (2,), A)))
        self.assertEqual(end.state(), (3, (B,)))

    def test_outgoing_of(self):
        for state in ((0, ()), (3, (A,)), (FAR - 1, THINGS), (0, ((),)), (7, (C, C, D))):
            end = outgoing_of(state)
            self.assertIsInstance(end, Outgoing)
            self.assertEqual(end.state(), state)
            self.assertEqual(end.many_put(), state[0] + len(state[1]))
            self.assertEqual(end.waiting(), [(state[0] + k, thing) for k, thing in enumerate(state[1])])
            self.assertEqual(end.known(0), 0)
            self.assertEqual(end.put(A), state[0] + len(state[1]))
            self.assertEqual(end.known(state[0] + len(state[1]) + 1), len(state[1]) + 1)

    def test_no_state(self):
        states = [
            (FAR, ()), (-1, ()), (True, ()), (False, ()), ("0", ()), (None, ()), ((), ()), (10 ** 19, ()), (0, []),
            (0, [A]), (0, A), (0, (1,)), (0, (None,)), (0, ("a",)), (0, (A, [])), (0, (A, ["a"])), (0, (A, (b"a",))),
            (0,), (0, (), ()), [0, ()], (), 0, None, (0, {}), (0, (A, ({},))), (0, (A, ((((range(2),),),),))),
            (0, (A, (("a", []),))), (0, None), (0, ""), (0, ("",)), (0, b""),
        ]
        for state in states:
            with self.assertRaises(NoState):
                outgoing_of(state)

    def test_odd_states(self):
        for thing in odd_things():
            refused = [thing, (thing, ())]
            if is_plain(thing):
                self.assertEqual(outgoing_of((5, (thing, A))).state(), (5, (thing, A)))
            else:
                refused.append((0, (A, thing)))
            if not is_plain((thing,)):
                refused.append((0, (A, (thing,))))
            for state in refused:
                with self.assertRaises(NoState):
                    outgoing_of(state)


class IncomingTest(unittest.TestCase):
    def test_new(self):
        end = Incoming()
        self.assertEqual((end.taken(), end.held(), end.state()), (0, (), (0, ())))

    def test_example_four(self):
        end = Incoming()
        self.assertEqual(end.take(1, ("b",)), [])
        self.assertEqual(end.held(), (1,))
        self.assertEqual(end.take(0, ("a",)), [("a",), ("b",)])
        self.assertEqual(end.taken(), 2)
        self.assertEqual((end.held(), end.state()), ((), (2, ())))

    def test_in_order(self):
        end = Incoming()
        for number, thing in enumerate(THINGS):
            self.assertEqual(end.take(number, thing), [thing])
            self.assertEqual(end.taken(), number + 1)

    def test_gaps(self):
        end = Incoming()
        for number in (5, 2, 4, 9):
            self.assertEqual(end.take(number, (number,)), [])
        self.assertEqual(end.held(), (2, 4, 5, 9))
        self.assertEqual(end.state(), (0, ((2, (2,)), (4, (4,)), (5, (5,)), (9, (9,)))))
        self.assertEqual(end.take(0, A), [A])
        self.assertEqual(end.take(1, B), [B, (2,)])
        self.assertEqual((end.taken(), end.held()), (3, (4, 5, 9)))
        self.assertEqual(end.take(3, C), [C, (4,), (5,)])
        self.assertEqual(end.state(), (6, ((9, (9,)),)))

    def test_what_comes_again(self):
        end = Incoming()
        self.assertEqual(end.take(0, A), [A])
        self.assertEqual(end.take(0, B), [])
        self.assertEqual(end.take(2, A), [])
        self.assertEqual(end.take(2, B), [])
        self.assertEqual(end.state(), (1, ((2, A),)))
        self.assertEqual(end.take(1, C), [C, A])
        for number in (0, 1, 2):
            self.assertEqual(end.take(number, D), [])
        self.assertEqual(end.state(), (3, ()))

    def test_far_ahead(self):
        end = Incoming()
        for number in (1000, 1001, 5000, FAR - 1):
            self.assertEqual(end.take(number, A), [])
        self.assertEqual(end.state(), (0, ()))
        self.assertEqual(end.take(999, B), [])
        self.assertEqual(end.state(), (0, ((999, B),)))
        self.assertEqual(end.take(0, C), [C])
        self.assertEqual(end.take(1001, A), [])
        self.assertEqual(end.take(1000, D), [])
        self.assertEqual(end.state(), (1, ((999, B), (1000, D))))

    def test_all_that_can_be_held(self):
        end = Incoming()
        for number in range(1100, 0, -1):
            self.assertEqual(end.take(number, (number,)), [])
        self.assertEqual(end.held(), tuple(range(1, 1000)))
        self.assertEqual(end.take(0, (0,)), [(number,) for number in range(1000)])
        self.assertEqual((end.taken(), end.held()), (1000, ()))

    def test_no_number(self):
        end = Incoming()
        end.take(0, A)
        end.take(3, B)
        for number in odd_numbers() + [FAR, FAR + 1, 10 ** 19, -1]:
            with self.assertRaises(NoNumber):
                end.take(number, C)
            self.assertEqual(end.state(), (1, ((3, B),)))

    def test_the_last_number(self):
        end = incoming_of((FAR - 2, ()))
        self.assertEqual(end.take(FAR - 1, B), [])
        self.assertEqual(end.take(FAR - 2, A), [A, B])
        self.assertEqual(end.taken(), FAR)
        with self.assertRaises(NoNumber):
            end.take(FAR, A)

    def test_lists_are_new(self):
        end = Incoming()
        found = end.take(0, A)
        found.append(B)
        self.assertEqual(end.take(1, C), [C])
        self.assertEqual(end.take(1, C), [])
        end.take(1, C).append(B)
        self.assertEqual(end.take(1, C), [])

    def test_copy(self):
        end = Incoming()
        end.take(0, A)
        end.take(2, B)
        other = end.copy()
        self.assertIsInstance(other, Incoming)
        self.assertEqual(other.state(), (1, ((2, B),)))
        self.assertEqual(other.take(1, C), [C, B])
        self.assertEqual(end.state(), (1, ((2, B),)))
        end.take(4, D)
        self.assertEqual(other.state(), (3, ()))
        self.assertEqual(end.state(), (1, ((2, B), (4, D))))

    def test_incoming_of(self):
        for state in (
            (0, ()), (5, ((6, A),)), (5, ((6, A), (8, D), (1004, C))), (FAR - 1, ()), (0, ((1, ()), (999, THINGS))),
        ):
            end = incoming_of(state)
            self.assertIsInstance(end, Incoming)
            self.assertEqual((end.state(), end.taken()), (state, state[0]))
            self.assertEqual(end.held(), tuple(number for number, _ in state[1]))
            self.assertEqual(end.take(state[0], B)[0], B)
        self.assertEqual(incoming_of((5, ((6, A), (7, C), (9, D)))).take(5, B), [B, A, C])

    def test_no_state(self):
        states = [
            (FAR, ()), (-1, ()), (True, ()), ("0", ()), (None, ()), ((), ()), (0, []), (0, A), (0, {}), (0, None), (0,),
            (0, (), ()), [0, ()], (), 0, None, "", b"ab", (5, ((5, A),)), (5, ((4, A),)), (5, ((1005, A),)),
            (5, ((6, A), (6, A))), (5, ((7, A), (6, B))), (5, ((6, A), (8, A), (7, A))), (0, ((True, A),)),
            (0, ([1, A],)), (0, ((1, [])),), (0, ((1, A, A),)), (0, ((1,),)), (0, (1, A)), (0, ((1, None),)),
            (0, ((1, 1),)), (0, ((1, "a"),)), (0, ((1, A), (2, (b"a",)))), (0, ((1, (["a"],)),)), (0, ((-1, A),)),
            (0, (("1", A),)), (0, ((None, A),)), (0, (((1,), A),)), (10 ** 19, ()), (0, ((10 ** 19, A),)), (0, ((0, A),)),
            (0, ((1000, A),)),
        ]
        for state in states:
            with self.assertRaises(NoState):
                incoming_of(state)

    def test_odd_states(self):
        for thing in odd_things():
            for state in (thing, (thing, ()), (0, (thing,)), (0, ((thing, A),)), (0, ((1, A), thing))):
                with self.assertRaises(NoState):
                    incoming_of(state)
            if is_plain(thing):
                self.assertEqual(incoming_of((0, ((1, thing),))).state(), (0, ((1, thing),)))
            else:
                with self.assertRaises(NoState):
                    incoming_of((0, ((1, thing),)))


class FactOfLinksTest(unittest.TestCase):
    def test_whatever_is_heard(self):
        chance = random.Random(5)
        for _ in range(30):
            self.led(chance)

    def led(self, chance):
        """A link by chance: things are put, heard late and often, and known; then all is taken."""
        start, end, put, taken, bag = Outgoing(), Incoming(), [], [], []
        for _ in range(150):
            deed = chance.randrange(5)
            if deed == 0:
                put.append((len(put), chance.randrange(3)))
                self.assertEqual(start.put(put[-1]), len(put) - 1)
            elif deed == 1:
                bag.extend(start.waiting())
            elif deed == 2 and bag:
                taken.extend(end.take(*chance.choice(bag)))
            elif deed == 3:
                start.known(chance.randrange(end.taken() + 1))
            else:
                start, end = outgoing_of(start.state()), incoming_of(end.state())
            self.assertEqual(taken, put[:len(taken)])
            self.assertEqual((end.taken(), start.many_put()), (len(taken), len(put)))
        while start.waiting():
            taken.extend(end.take(*start.waiting()[0]))
            start.known(end.taken())
        self.assertEqual(taken, put)


class DeepTest(unittest.TestCase):
    def test_states_within_states(self):
        outgoing, incoming = (0, ()), (0, ())
        for _ in range(3000):
            outgoing = outgoing_of((1, (outgoing,))).state()
            incoming = incoming_of((0, ((1, incoming),))).state()
        with self.assertRaises(NoState):
            outgoing_of((0, (nested(3000, [], lambda inner: (inner,)),)))
        end = Outgoing()
        self.assertEqual(end.put(outgoing), 0)
        self.assertIs(end.waiting()[0][1], outgoing)
        self.assertIs(end.copy().state()[1][0], outgoing)
        other = Incoming()
        self.assertIs(other.take(0, incoming)[0], incoming)


if __name__ == "__main__":
    unittest.main()
