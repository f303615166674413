"""Yards: points 7.1 and 7.2."""

import itertools
import random
import unittest

from knownquiet.errors import IsFree, NoFolk, NoLetter, NoLot, NoNumber, NotAsked, NotFree
from knownquiet.yards import Yard, on_rings, ring_of
from tests.odd import nested, odd_numbers, odd_things

ASK = ("ask",)
GRANT = ("grant",)
ERRORS = (IsFree, NoFolk, NoLetter, NoLot, NoNumber, NotAsked, NotFree)


class PlainYard:
    """An own account of who waits for whom."""

    def __init__(self, many):
        self.many = many
        self.waiting = {who: set() for who in range(many)}
        self.asked = {who: set() for who in range(many)}
        self.mail = {pair: [] for pair in itertools.product(range(many), repeat=2)}
        self.sent = [0] * many
        self.passed = []
        self.known = set()

    def ask(self, who, lot):
        if self.waiting[who]:
            raise NotFree()
        if not lot or who in lot:
            raise NoLot()
        self.waiting[who] = set(lot)
        for other in lot:
            self.mail[who, other].append(ASK)

    def grant(self, who, other):
        if self.waiting[who]:
            raise NotFree()
        if other not in self.asked[who]:
            raise NotAsked()
        self.asked[who].remove(other)
        self.mail[who, other].append(GRANT)

    def bring(self, who, other):
        if not self.mail[who, other]:
            raise NoLetter()
        word = self.mail[who, other].pop(0)
        if word == ASK:
            self.asked[other].add(who)
        elif word == GRANT:
            self.waiting[other].remove(who)
        elif self.waiting[other] and who in self.asked[other]:
            _, of, number = word
            if of == other:
                self.known.add(of)
            elif not any(one == other and same == of and late >= number for one, same, late in self.passed):
                self.passed.append((other, of, number))
                for ahead in sorted(self.waiting[other]):
                    self.mail[other, ahead].append(word)
        return word

    def probe(self, who):
        if not self.waiting[who]:
            raise IsFree()
        for other in sorted(self.waiting[who]):
            self.mail[who, other].append(("probe", who, self.sent[who]))
        self.sent[who] += 1
        return self.sent[who] - 1

    def steps(self, who):
        return [other for other in sorted(self.waiting[who]) if GRANT not in self.mail[other, who]]

    def ring(self, who):
        """The least of the shortest rings: all ways are tried, the shorter ones first."""
        ways = [(who,)]
        for _ in range(self.many):
            ways = [way + (other,) for way in ways for other in self.steps(way[-1]) if other not in way[1:]]
            if [way for way in ways if way[-1] == who]:
                return min(way[:-1] for way in ways if way[-1] == who)
        return None


def told(yard):
    """All that a Yard tells."""
    folk = range(yard.many)
    return (
        [yard.waits(who) for who in folk], [yard.asked_by(who) for who in folk],
        [yard.letters(who, other) for who in folk for other in folk], yard.known_stuck(), on_rings(yard),
        [ring_of(yard, who) for who in folk],
    )


def plainly(plain):
    folk = range(plain.many)
    rings = [plain.ring(who) for who in folk]
    return (
        [tuple(sorted(plain.waiting[who])) for who in folk], [tuple(sorted(plain.asked[who])) for who in folk],
        [tuple(plain.mail[pair]) for pair in itertools.product(folk, repeat=2)], tuple(sorted(plain.known)),
        tuple(who for who in folk if rings[who] is not None), rings,
    )


def answer(call, *things):
    """What a call returns, or the kind of its error."""
    try:
        return call(*things)
    except ERRORS as error:
        return error.__class__


def some_call(chance, yard):
    who, other = chance.randrange(yard.many), chance.randrange(yard.many)
    folk = range(yard.many)
    full = [pair for pair in itertools.product(folk, repeat=2) if yard.letters(*pair)]
    can = [(one, two) for one in folk for two in yard.asked_by(one)]
    what = chance.randrange(11)
    if what < 2:
        return ("ask", who, tuple(sorted(chance.sample(folk, chance.randint(0, min(3, yard.many))))))
    if what < 4:
        return ("grant",) + (chance.choice(can) if can and chance.randrange(4) else (who, other))
    if what < 9:
        return ("bring",) + (chance.choice(full) if full and chance.randrange(5) else (who, other))
    return ("probe", who)


def ring_yard(many):
    """A yard in which each waits for the next, the last for the first, all asks being heard."""
    yard = Yard(many)
    for who in range(many):
        yard.ask(who, ((who + 1) % many,))
    for who in range(many):
        yard.bring(who, (who + 1) % many)
    return yard


class YardTest(unittest.TestCase):
    def test_begun(self):
        for many in range(1, 9):
            yard = Yard(many)
            self.assertEqual(told(yard), ([()] * many, [()] * many, [()] * many ** 2, (), (), [None] * many))

    def test_no_number(self):
        for thing in odd_numbers() + [0, 9, -1, True, 10 ** 19]:
            with self.assertRaises(NoNumber):
                Yard(thing)

    def test_by_hand(self):
        yard = Yard(3)
        self.assertIsNone(yard.ask(0, (1, 2)))
        self.assertEqual((yard.waits(0), yard.letters(0, 1), yard.letters(0, 2)), ((1, 2), (ASK,), (ASK,)))
        self.assertEqual((yard.asked_by(1), yard.letters(1, 0)), ((), ()))
        self.assertEqual(yard.bring(0, 1), ASK)
        self.assertEqual((yard.asked_by(1), yard.asked_by(2), yard.letters(0, 1)), ((0,), (), ()))
        self.assertIsNone(yard.grant(1, 0))
        self.assertEqual((yard.asked_by(1), yard.waits(0), yard.letters(1, 0)), ((), (1, 2), (GRANT,)))
        self.assertEqual(yard.bring(1, 0), GRANT)
        self.assertEqual(yard.waits(0), (2,))
        yard.bring(0, 2)
        yard.grant(2, 0)
        self.assertEqual(answer(yard.ask, 0, (1,)), NotFree)
        yard.bring(2, 0)
        self.assertEqual(yard.waits(0), ())
        self.assertIsNone(yard.ask(0, (1,)))

    def test_probes_by_hand(self):
        yard = ring_yard(3)
        self.assertEqual((yard.probe(0), yard.probe(0), yard.probe(1)), (0, 1, 0))
        self.assertEqual(yard.letters(0, 1), (("probe", 0, 0), ("probe", 0, 1)))
        self.assertEqual(yard.bring(0, 1), ("probe", 0, 0))
        self.assertEqual(yard.letters(1, 2), (("probe", 1, 0), ("probe", 0, 0)))
        yard.bring(0, 1)
        self.assertEqual(yard.letters(1, 2), (("probe", 1, 0), ("probe", 0, 0), ("probe", 0, 1)))
        yard.bring(1, 2)
        yard.bring(1, 2)
        self.assertEqual(yard.letters(2, 0), (("probe", 1, 0), ("probe", 0, 0)))
        yard.bring(2, 0)
        self.assertEqual((yard.known_stuck(), yard.letters(0, 1)), ((), (("probe", 1, 0),)))
        yard.bring(2, 0)
        self.assertEqual((yard.known_stuck(), yard.letters(0, 1)), ((0,), (("probe", 1, 0),)))
        yard.bring(0, 1)
        self.assertEqual(yard.known_stuck(), (0, 1))

    def test_probes_of_lesser_numbers_are_not_passed_on(self):
        # 0 waits for 1 and 2; 1 waits for 2; 2 waits for 3; 3 waits for 0: two ways lead to 2.
        yard = Yard(4)
        for who, lot in [(0, (1, 2)), (1, (2,)), (2, (3,)), (3, (0,))]:
            yard.ask(who, lot)
            for other in lot:
                yard.bring(who, other)
        self.assertEqual((yard.probe(0), yard.probe(0)), (0, 1))
        yard.bring(0, 1)
        yard.bring(0, 2)
        yard.bring(0, 2)
        self.assertEqual(yard.letters(2, 3), (("probe", 0, 0), ("probe", 0, 1)))
        yard.bring(1, 2)
        self.assertEqual(yard.letters(2, 3), (("probe", 0, 0), ("probe", 0, 1)))
        yard.bring(0, 1)
        yard.bring(1, 2)
        self.assertEqual(yard.letters(2, 3), (("probe", 0, 0), ("probe", 0, 1)))
        yard.probe(1)
        yard.bring(1, 2)
        self.assertEqual(yard.letters(2, 3), (("probe", 0, 0), ("probe", 0, 1), ("probe", 1, 0)))

    def test_probes_that_are_nothing(self):
        # Heard by a free one.
        yard = Yard(3)
        yard.ask(0, (1,))
        yard.bring(0, 1)
        yard.probe(0)
        self.assertEqual(yard.bring(0, 1), ("probe", 0, 0))
        self.assertEqual((yard.letters(1, 0), yard.letters(1, 2), yard.known_stuck()), ((), (), ()))
        # Heard by one that granted the ask, and waits now itself.
        yard.probe(0)
        yard.grant(1, 0)
        yard.ask(1, (2,))
        yard.bring(0, 1)
        self.assertEqual(yard.letters(1, 2), (ASK,))
        # Its own, but of one whose ask is granted.
        yard = ring_yard(2)
        yard.probe(0)
        yard.bring(0, 1)
        self.assertEqual(yard.letters(1, 0), (("probe", 0, 0),))

    def test_a_probe_that_a_free_one_heard_may_come_again(self):
        yard = Yard(4)
        yard.ask(0, (1, 2))
        yard.bring(0, 1)
        yard.bring(0, 2)
        yard.probe(0)
        yard.bring(0, 1)
        self.assertEqual(yard.letters(1, 3), ())
        yard.ask(1, (3,))
        yard.ask(2, (1,))
        yard.bring(2, 1)
        yard.bring(0, 2)
        self.assertEqual(yard.bring(2, 1), ("probe", 0, 0))
        self.assertEqual(yard.letters(1, 3), (ASK, ("probe", 0, 0)))

    def test_errors_in_order(self):
        yard = Yard(4)
        yard.ask(0, (1, 2))
        yard.bring(0, 1)
        before = told(yard)
        for call, things, error in [
            (yard.ask, (0, (1,)), NotFree), (yard.ask, (0, None), NotFree), (yard.ask, (0, (0,)), NotFree),
            (yard.ask, (4, (1,)), NoFolk), (yard.ask, (1, ()), NoLot), (yard.ask, (1, (1,)), NoLot), (yard.ask, (1, (0, 1)), NoLot),
            (yard.ask, (1, (4,)), NoLot), (yard.ask, (1, (2, 0)), NoLot), (yard.ask, (1, (2, 2)), NoLot), (yard.ask, (1, [2]), NoLot),
            (yard.ask, (1, (0, True)), NoLot), (yard.ask, (1, (False,)), NoLot), (yard.ask, (1, (-1, 0)), NoLot), (yard.ask, (1, 2), NoLot),
            (yard.ask, (1, ("0",)), NoLot), (yard.ask, (1, (0, None)), NoLot), (yard.ask, (1, {0: 1}), NoLot), (yard.ask, (1, ((0,),)), NoLot),
            (yard.grant, (0, 1), NotFree), (yard.grant, (0, 4), NoFolk), (yard.grant, (4, 0), NoFolk), (yard.grant, (1, 2), NotAsked),
            (yard.grant, (1, 1), NotAsked), (yard.grant, (2, 0), NotAsked), (yard.bring, (0, 1), NoLetter), (yard.bring, (1, 0), NoLetter),
            (yard.bring, (2, 2), NoLetter), (yard.bring, (4, 0), NoFolk), (yard.bring, (0, 4), NoFolk), (yard.probe, (1,), IsFree),
            (yard.probe, (4,), NoFolk), (yard.waits, (4,), NoFolk), (yard.asked_by, (-1,), NoFolk), (yard.letters, (0, 4), NoFolk),
            (yard.letters, (4, 0), NoFolk), (ring_of, (yard, 4), NoFolk),
        ]:
            self.assertEqual(answer(call, *things), error, things)
        self.assertEqual(told(yard), before)
        self.assertEqual(yard.letters(0, 0), ())

    def test_odd_arguments(self):
        yard = Yard(4)
        yard.ask(0, (1, 2))
        yard.bring(0, 1)
        before = told(yard)
        for thing in odd_numbers() + [4, -1, True, False, nested(40, 0, lambda inner: (inner,))]:
            for call in (yard.probe, yard.waits, yard.asked_by):
                self.assertEqual(answer(call, thing), NoFolk)
            self.assertEqual(answer(ring_of, yard, thing), NoFolk)
            for call in (yard.ask, yard.grant, yard.bring, yard.letters):
                self.assertEqual(answer(call, thing, thing), NoFolk)
                self.assertEqual(answer(call, thing, (1,)), NoFolk)
            for call in (yard.grant, yard.bring, yard.letters):
                self.assertEqual(answer(call, 0, thing), NoFolk)
                self.assertEqual(answer(call, thing, 0), NoFolk)
        for thing in odd_things() + [(0, (1,)), (nested(39, 0, lambda inner: (inner,)),)]:
            if thing != (0, 1, 2, 3):
                self.assertEqual(answer(yard.ask, 3, thing), NoLot, repr(thing)[:60])
        self.assertEqual(told(yard), before)

    def test_runs(self):
        chance = random.Random(11)
        seen = {}
        for many in list(range(1, 9)) * 3:
            yard, plain = Yard(many), PlainYard(many)
            for _ in range(220):
                if chance.randrange(15) == 0:
                    yard = yard.copy()
                call = some_call(chance, yard)
                found = answer(getattr(yard, call[0]), *call[1:])
                self.assertEqual(found, answer(getattr(plain, call[0]), *call[1:]), call)
                self.assertEqual(told(yard), plainly(plain))
                # To whom it is known, it stands on a ring, and does for ever.
                self.assertTrue(set(yard.known_stuck()) <= set(on_rings(yard)))
                seen[(call[0], found if isinstance(found, type) else None)] = True
                if len(yard.known_stuck()) > many // 2:
                    break
        for call, error in [
            ("ask", None), ("ask", NotFree), ("ask", NoLot), ("grant", None), ("grant", NotFree), ("grant", NotAsked),
            ("bring", None), ("bring", NoLetter), ("probe", None), ("probe", IsFree),
        ]:
            self.assertIn((call, error), seen)

    def test_copies_go_on_apart(self):
        yard = ring_yard(4)
        yard.probe(0)
        yard.bring(0, 1)
        before = told(yard)
        other = yard.copy()
        self.assertIsInstance(other, Yard)
        self.assertEqual(told(other), before)
        for who in (1, 2, 3):
            other.bring(who, (who + 1) % 4)
        self.assertEqual(other.known_stuck(), (0,))
        self.assertEqual((other.probe(0), other.probe(1)), (1, 0))
        self.assertEqual(told(yard), before)
        self.assertEqual(yard.probe(0), 1)
        # What was passed on is kept apart, too.
        twin = yard.copy()
        twin.bring(0, 1)
        self.assertEqual(twin.letters(1, 2), (("probe", 0, 0), ("probe", 0, 1)))
        yard.bring(0, 1)
        self.assertEqual(yard.letters(1, 2), (("probe", 0, 0), ("probe", 0, 1)))
        free = Yard(2)
        twin = free.copy()
        twin.ask(0, (1,))
        twin.bring(0, 1)
        twin.grant(1, 0)
        self.assertEqual(told(free), told(Yard(2)))


class RingTest(unittest.TestCase):
    def test_long_rings(self):
        self.assertIsNone(ring_of(Yard(1), 0))
        for many in range(2, 9):
            yard = ring_yard(many)
            for who in range(many):
                self.assertEqual(ring_of(yard, who), tuple((who + step) % many for step in range(many)))
            self.assertEqual(on_rings(yard), tuple(range(many)))
            yard.probe(many - 1)
            for who in range(many):
                self.assertEqual(yard.known_stuck(), ())
                yard.bring((many - 1 + who) % many, who)
            self.assertEqual(yard.known_stuck(), (many - 1,))

    def test_shortest_and_least(self):
        yard = Yard(6)
        for who, lot in [(0, (1, 3, 5)), (1, (2,)), (2, (0,)), (3, (4,)), (4, (0, 1)), (5, (2, 4))]:
            yard.ask(who, lot)
        self.assertEqual(ring_of(yard, 0), (0, 1, 2))
        self.assertEqual(ring_of(yard, 2), (2, 0, 1))
        self.assertEqual(ring_of(yard, 3), (3, 4, 0))
        self.assertEqual(ring_of(yard, 4), (4, 0, 3))
        self.assertEqual(ring_of(yard, 5), (5, 2, 0))
        self.assertEqual(on_rings(yard), (0, 1, 2, 3, 4, 5))

    def test_grants_on_their_way(self):
        yard = Yard(3)
        yard.ask(0, (1,))
        yard.bring(0, 1)
        yard.grant(1, 0)
        yard.ask(1, (0, 2))
        self.assertEqual(yard.waits(0), (1,))
        self.assertIsNone(ring_of(yard, 0))
        self.assertIsNone(ring_of(yard, 1))
        self.assertEqual(on_rings(yard), ())
        # The other way of the same pair is none of these.
        yard.ask(2, (1,))
        self.assertEqual(ring_of(yard, 1), (1, 2))
        self.assertEqual(on_rings(yard), (1, 2))
        yard.bring(1, 0)
        yard.ask(0, (1,))
        self.assertEqual(ring_of(yard, 1), (1, 0))
        self.assertEqual(ring_of(yard, 0), (0, 1))

    def test_beside_rings(self):
        yard = Yard(5)
        yard.ask(0, (1,))
        yard.ask(1, (2, 4))
        yard.ask(2, (1,))
        yard.ask(3, (0,))
        self.assertEqual([ring_of(yard, who) for who in range(5)], [None, (1, 2), (2, 1), None, None])
        self.assertEqual(on_rings(yard), (1, 2))

    def test_fact_of_probes(self):
        chance = random.Random(12)
        probed = 0
        for _ in range(120):
            yard = Yard(chance.randint(2, 8))
            for _ in range(chance.randint(10, 120)):
                call = some_call(chance, yard)
                answer(getattr(yard, call[0]), *call[1:])
            rings = on_rings(yard)
            for who in chance.sample(rings, min(2, len(rings))):
                twin = yard.copy()
                twin.probe(who)
                self.bring_all(twin, chance)
                self.assertIn(who, twin.known_stuck())
                probed += 1
            self.bring_all(yard, chance)
            self.assertTrue(set(rings) <= set(on_rings(yard)))
        self.assertGreater(probed, 30)

    def bring_all(self, yard, chance):
        pairs = list(itertools.product(range(yard.many), repeat=2))
        while True:
            full = [pair for pair in pairs if yard.letters(*pair)]
            if not full:
                return
            yard.bring(*chance.choice(full))


if __name__ == "__main__":
    unittest.main()
