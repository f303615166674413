"""Watchers: point 4.2, and the facts of 4.1."""

import random
import unittest

from knownquiet.errors import Broken, NoGlass, NotQuiet
from knownquiet.glass import broken, first_glass, given_glass, moved, moves, quiet_glass
from knownquiet.states import says
from knownquiet.watchers import answers_left, shares_left, signs_left
from tests.test_glass import ANSWER, EACH, ONE, SIX, THREE, WORKS, odd_glasses, some_task, with_state, with_words

LEFT = (answers_left, signs_left, shares_left)


def many_words(glass):
    return len([1 for way in glass[1] for word in way[2]])


def what_moves(glass, behind, move):
    """What is heard, or sent, by a move: "answer", "sign", "share", or None."""
    if move[0] == "pass":
        return "sign" if many_words(behind) > many_words(glass) else None
    if move[0] == "take":
        word = {way[:2]: way[2] for way in glass[1]}[move[1:]][0][0]
        return word if word in ("answer", "share") else None
    return None


class WatchersTest(unittest.TestCase):
    def quiet_moment(self, works, chance):
        """A glass that has just become quiet."""
        glass = first_glass(works)
        for _ in range(chance.randint(1, 3)):
            glass = given_glass(works, glass, some_task(works, chance))
            for _ in range(chance.randint(0, 60)):
                can = moves(works, glass)
                if can:
                    glass = moved(works, glass, chance.choice(can))
        while not quiet_glass(works, glass):
            glass = moved(works, glass, chance.choice(moves(works, glass)))
        return glass

    def test_fact_of_numbers(self):
        chance = random.Random(10)
        most = {}
        for works in EACH:
            for _ in range(25):
                glass = self.quiet_moment(works, chance)
                while True:
                    left = dict(zip(("answer", "sign", "share"), [function(works, glass) for function in LEFT]))
                    self.assertLessEqual(left["sign"], 3 * works.many - 1)
                    most[works.many] = max(most.get(works.many, 0), left["sign"])
                    told = dict(zip(("answer", "sign", "share"), says(works, glass[0][0])))
                    self.assertEqual((left["answer"] == 0, left["share"] == 0), (told["answer"], told["share"]))
                    self.assertTrue(left["sign"] == 0 or not told["sign"])
                    can = moves(works, glass)
                    if not can:
                        break
                    move = chance.choice(can)
                    behind = moved(works, glass, move)
                    heard = what_moves(glass, behind, move)
                    after = [left[word] - (word == heard) for word in ("answer", "sign", "share")]
                    self.assertEqual([function(works, behind) for function in LEFT], after)
                    glass = behind
                self.assertEqual((left, says(works, glass[0][0])), (dict.fromkeys(left, 0), (True,) * 3))
        self.assertTrue(all(number >= 2 * many - 1 for many, number in most.items()), most)

    def test_first_glass(self):
        for works in EACH:
            self.assertEqual([function(works, first_glass(works)) for function in LEFT], [0, 0, 0])

    def test_by_hand(self):
        glass = first_glass(WORKS)
        glass = with_state(glass, 0, parent=0, deficit=1, sent=1, share=(1,), said=False)
        glass = with_words(with_state(glass, 1, heard=1, black=True), 1, 0, ANSWER, ("share", (1,)))
        self.assertEqual(broken(WORKS, glass), ())
        # The sign is looked at in vain, comes to 1 and back black, and once more round.
        self.assertEqual([function(WORKS, glass) for function in LEFT], [1, 4, 1])
        clean = with_state(glass, 1, black=False)
        self.assertEqual(signs_left(WORKS, clean), 2)
        held = with_state(with_state(clean, 0, sign=None), 1, sign=(0, 0, 0))
        self.assertEqual(signs_left(WORKS, held), 1)
        held = with_state(with_state(glass, 0, sign=None), 1, sign=(0, 0, 0))
        self.assertEqual(signs_left(WORKS, held), 3)
        held = with_state(with_state(clean, 0, sign=None), 1, sign=(0, 0, 1))
        self.assertEqual(signs_left(WORKS, held), 3)

    def test_signs_of_three(self):
        glass = with_state(first_glass(THREE), 0, said=False)
        self.assertEqual(signs_left(THREE, glass), 0)
        self.assertEqual(signs_left(THREE, with_state(glass, 0, said=True, black=True)), 0)
        self.assertEqual(signs_left(THREE, with_state(glass, 0, black=True)), 3)
        self.assertEqual(signs_left(THREE, with_state(glass, 0, sign=(1, 0, 0))), 3)
        self.assertEqual(signs_left(THREE, with_state(glass, 0, sign=(1, 1, 1))), 3)
        self.assertEqual(signs_left(THREE, with_state(glass, 1, black=True)), 0)
        black = with_state(with_state(glass, 0, black=True), 2, black=True)
        self.assertEqual(signs_left(THREE, black), 6)
        # The most: it comes from house 2 in vain, then once round black, for 2 became so behind it, and once more.
        away = with_state(glass, 0, sign=None)
        for sender, to, sign, many in [
            (0, 0, (0, 0, 0), 0), (0, 0, (0, 0, 1), 3), (0, 1, (5, 5, 0), 1), (2, 1, (5, 4, 0), 4), (0, 2, (0, 0, 0), 2),
            (1, 2, (0, 0, 1), 5), (2, 2, (7, 7, 0), 2),
        ]:
            self.assertEqual(signs_left(THREE, with_words(away, sender, to, ("mark", 1), ("sign",) + sign)), many)
        spoilt = with_state(with_state(away, 2, sign=(1, 0, 0)), 1, black=True)
        self.assertEqual(signs_left(THREE, spoilt), 5)
        # House 2 held the sign, and house 0 is black only behind its look.
        most = with_words(with_state(away, 2, black=True), 0, 1, ("sign", 1, 0, 0))
        self.assertEqual(signs_left(THREE, most), 1 + 3 + 3)

    def test_sent_and_heard_count(self):
        glass = with_state(first_glass(THREE), 0, said=False, sent=4, heard=1)
        glass = with_state(with_state(glass, 1, sent=3, heard=5), 2, sent=0, heard=1)
        self.assertEqual(broken(THREE, glass), ())
        self.assertEqual(signs_left(THREE, glass), 3)
        self.assertEqual(signs_left(THREE, with_state(glass, 0, sign=(3, 6, 0))), 0)
        self.assertEqual(signs_left(THREE, with_state(glass, 0, sign=(3, 6, 0), black=True)), 3)

    def test_one_house(self):
        glass = with_state(first_glass(ONE), 0, said=False, black=True)
        self.assertEqual(signs_left(ONE, glass), 1)
        self.assertEqual(signs_left(ONE, with_state(glass, 0, sign=(1, 0, 0), black=False)), 1)
        self.assertEqual(signs_left(ONE, with_state(glass, 0, black=False)), 0)

    def test_shares_and_answers_on_their_way(self):
        glass = with_state(first_glass(SIX), 0, share=(3,))
        glass = with_words(glass, 2, 0, ("share", (3,)), ("mark", 1), ("share", (1,)))
        glass = with_words(glass, 5, 0, ("share", (2,)))
        self.assertEqual([function(SIX, glass) for function in LEFT], [0, 0, 3])
        glass = with_state(with_state(first_glass(SIX), 0, parent=0, deficit=1), 4, parent=0, deficit=2)
        glass = with_words(with_words(glass, 1, 4, ANSWER), 3, 4, ANSWER)
        self.assertEqual([function(SIX, glass) for function in LEFT], [3, 0, 0])

    def test_errors_in_order(self):
        for thing in odd_glasses(THREE):
            for function in LEFT:
                with self.assertRaises(NoGlass):
                    function(THREE, thing)
        first = first_glass(THREE)
        for glass in [
            given_glass(THREE, first, (2, 0)), with_state(first, 2, bag=((2, 0),)), with_words(first, 1, 1, ("task", 2, 0, (1,))),
        ]:
            for function in LEFT:
                with self.assertRaises(NotQuiet):
                    function(THREE, glass)
        for items in ({"sent": 1}, {"share": (1,)}, {"deficit": 1, "parent": 0}, {"sign": None, "said": False}, {"sign": None}):
            for function in LEFT:
                with self.assertRaises(Broken):
                    function(THREE, with_state(first, 0, **items))
        for function in LEFT:
            with self.assertRaises(Broken):
                function(THREE, with_state(first, 1, parent=2))
            with self.assertRaises(Broken):
                function(THREE, with_words(first, 1, 2, ("sign", 0, 0, 0)))


if __name__ == "__main__":
    unittest.main()
