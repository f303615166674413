"""Glasses: points 5.1, 5.2, and what 6.1 and 6.2 say of pictures as glasses."""

import random
import unittest
from fractions import Fraction

from knownquiet.errors import Broken, NoGlass, NoMove, NoParts, NoTask, TooMany
from knownquiet.glass import (
    broken, first_glass, given_glass, is_glass, lies_told, moved, moves, pictured, quiet_glass, run_out,
)
from knownquiet.posts import Post
from knownquiet.rows import unsealed
from knownquiet.states import begun, done, gifted, heard, passed, says
from knownquiet.watchers import signs_left
from knownquiet.works import Works, many_tasks
from tests.odd import nested, odd_numbers, odd_things
from tests.plain import PlainPost

ONE = Works(1, (((0, 0), (0, 0)),))
WORKS = Works(2, (((1, 0),),))
THREE = Works(3, (((1, 1), (0, 2), (1, 0)), ((2, 2),), ()))
BUSY = Works(4, (((1, 0), (3, 1)), ((0, 0), (2, 1))))
SIX = Works(6, (((1, 1), (5, 1)), ((2, 0), (0, 1), (3, 0))))
EACH = (ONE, WORKS, THREE, BUSY, SIX)
ANSWER = ("answer",)
NAMES = ["bag", "parent", "deficit", "sent", "heard", "black", "sign", "share", "said"]
SUMS = ("counts", "shares", "deficits", "tree", "sign")


def some_task(works, chance):
    """A task that may be given, of not too many tasks."""
    task = (chance.randrange(len(works.rules)), chance.randint(0, 12))
    while many_tasks(works, task) > 25:
        task = (task[0], task[1] - 1)
    return task


def run(works, chance, steps, gifts):
    """The glasses of a run whose moves are taken in any order, and the moves: pairs (glass, the move behind which it is)."""
    glass = first_glass(works)
    found = [(glass, None)]
    for _ in range(steps):
        can = moves(works, glass)
        if gifts and (not can or chance.randrange(12) == 0):
            task = some_task(works, chance)
            glass = given_glass(works, glass, task)
            found.append((glass, ("give", task)))
        elif can:
            move = chance.choice(can)
            glass = moved(works, glass, move)
            found.append((glass, move))
    return found


def plain_moves(glass):
    states, ways = glass
    found = [("do", house) for house, state in enumerate(states) if state[0]]
    for house, state in enumerate(states):
        if state[6] is not None and not state[0] and not state[8]:
            found.append(("pass", house))
    return tuple(sorted(found + [("take", way[0], way[1]) for way in ways]))


def plain_moved(works, glass, move):
    """The glass behind a move, by plain lists."""
    states = list(glass[0])
    links = {way[:2]: list(way[2]) for way in glass[1]}
    house = move[-1]
    if move[0] == "do":
        states[house], out = done(works, house, states[house])
    elif move[0] == "pass":
        states[house], out = passed(works, house, states[house])
    else:
        word = links[move[1:]].pop(0)
        states[house], out = heard(works, house, states[house], move[1], word)
    for to, word in out:
        links.setdefault((house, to), []).append(word)
    return (tuple(states), tuple(sorted(pair + (tuple(words),) for pair, words in links.items() if words)))


def worth(share):
    return sum([Fraction(1, 2 ** number) for number in share], Fraction(0))


def plain_broken(works, glass):
    states, ways = glass
    words = [(way[0], way[1], word) for way in ways for word in way[2]]
    tasks = [word for word in words if word[2][0] == "task"]
    wrong = []
    if sum(state[3] for state in states) - sum(state[4] for state in states) != len(tasks):
        wrong.append("counts")
    shares = [state[7] for state in states] + [word[2][-1] for word in words if word[2][0] in ("task", "share")]
    if sum([worth(share) for share in shares], Fraction(0)) != 1 or not states[0][7]:
        wrong.append("shares")
    elif any(bool(state[0]) != bool(state[7]) for state in states[1:]):
        wrong.append("shares")
    for house, state in enumerate(states):
        many = len([word for word in tasks if word[0] == house])
        many += len([word for word in words if word[2] == ANSWER and word[1] == house])
        many += len([other for at, other in enumerate(states) if at > 0 and other[1] == house])
        if many != state[2] and "deficits" not in wrong:
            wrong.append("deficits")
    for house, state in enumerate(states):
        at = house
        for _ in range(works.many):
            at = None if at is None else states[at][1]
        if (state[0] or state[2] or state[1] is not None) and at != 0 and "tree" not in wrong:
            wrong.append("tree")
    signs = len([state for state in states if state[6] is not None]) + len([word for word in words if word[2][0] == "sign"])
    if signs != 1 or any(state[8] and state[6] is None for state in states):
        wrong.append("sign")
    return tuple(wrong)


def with_state(glass, house, **items):
    """A glass with other items in the state of a house."""
    state = list(glass[0][house])
    for name, item in items.items():
        state[NAMES.index(name)] = item
    return (glass[0][:house] + (tuple(state),) + glass[0][house + 1:], glass[1])


def with_words(glass, sender, to, *words):
    """A glass with these words on a way instead of those that are."""
    links = {way[:2]: way[2] for way in glass[1]}
    links[(sender, to)] = words
    return (glass[0], tuple(sorted(pair + (link,) for pair, link in links.items() if link)))


def words_on(glass, sender, to):
    return {way[:2]: way[2] for way in glass[1]}.get((sender, to), ())


def odd_glasses(works):
    """Objects that are no glasses."""
    states, ways = glass = first_glass(works)
    word = (ANSWER,)
    found = [
        (), (states,), (states, ways, ()), [states, ways], (ways, states), (list(states), ways), (states, []), states,
        (states[:-1], ways), (states + states[-1:], ways), (states, None), (states[::-1], ways), (None, ways), (glass,),
        (states, ((0, 0, ()),)), (states, ((0, 0, word), (0, 0, word))), (states, ((0, 0, word), (0, 0, (("mark", 1),)))),
        (states, ((1, 0, word), (0, 1, word))), (states, ((0, 1, word), (0, 0, word))), (states, ((0, works.many, word),)),
        (states, ((works.many, 0, word),)), (states, ((-1, 0, word),)), (states, ((True, 0, word),)), (states, ((0, word),)),
        (states, ((0, 0, word, 0),)), (states, ([0, 0, word],)), (states, ((0, 0, list(word)),)), (states, ((0, 0, ANSWER),)),
        (states, ((0, 0, (("mark", 1000),)),)), (states, ((0, 0, (("share", ()),)),)), (states, ((0, 0, word + (None,)),)),
        (states, (0, 0, word)), (states, [(0, 0, word)]), (states, ((0, 0, None),)), (states, ((None, 0, word),)),
    ]
    for at, thing in [(0, ()), (1, 9), (2, -1), (5, 0), (6, (0, 0, 2)), (7, (0, 1)), (8, None)]:
        if not (at == 0):
            state = states[0]
            found.append((((state[:at] + (thing,) + state[at + 1:]),) + states[1:], ways))
    found += [(thing, ways) for thing in odd_things()] + [(states, thing) for thing in odd_things()]
    found += [(states[:-1] + (thing,), ways) for thing in odd_things()]
    found += [(states, ((0, 0, (thing,)),)) for thing in odd_things()]
    return found + odd_things() + [nested(40, 0, lambda inner: (inner, ()))]


class FormTest(unittest.TestCase):
    def test_first_glass(self):
        for works in EACH:
            glass = first_glass(works)
            self.assertEqual(glass, (tuple(begun(works, house) for house in range(works.many)), ()))
            self.assertIs(is_glass(works, glass), True)
            self.assertIs(quiet_glass(works, glass), True)
            self.assertEqual((broken(works, glass), lies_told(works, glass), moves(works, glass)), ((), (), ()))

    def test_by_form_alone(self):
        states = (
            (((0, 3),), 0, 9, 8, 7, True, None, (), True), (((2, 3),), 2, 9, 8, 7, True, (1, 2, 1), (0,), False),
            ((), 1, 0, 0, 0, False, (0, 0, 0), (3, 4), False),
        )
        words = (ANSWER, ("mark", 5), ("sign", 4, 3, 1), ("share", (0,)), ("task", 1, 12, (2,)))
        for ways in ((), ((0, 0, words),), ((0, 2, words), (1, 1, words[:1]), (2, 0, words[2:]), (2, 1, words))):
            self.assertIs(is_glass(THREE, (states, ways)), True)
            self.assertIs(is_glass(WORKS, (states, ways)), False)

    def test_what_is_no_glass(self):
        for thing in odd_glasses(THREE):
            self.assertIs(is_glass(THREE, thing), False, repr(thing)[:150])
            for function in (quiet_glass, broken, lies_told, moves, run_out):
                with self.assertRaises(NoGlass):
                    function(THREE, thing)
            with self.assertRaises(NoGlass):
                moved(THREE, thing, ("do", 0))
            with self.assertRaises(NoGlass):
                moved(THREE, thing, thing)
            with self.assertRaises(NoGlass):
                given_glass(THREE, thing, (0, 0))
            with self.assertRaises(NoGlass):
                given_glass(THREE, thing, None)

    def test_quiet(self):
        glass = first_glass(THREE)
        self.assertIs(quiet_glass(THREE, with_state(glass, 2, bag=((2, 0),))), False)
        self.assertIs(quiet_glass(THREE, with_state(glass, 0, bag=((2, 0),))), False)
        self.assertIs(quiet_glass(THREE, with_words(glass, 1, 2, ANSWER, ("task", 2, 0, (5,)))), False)
        for word in (ANSWER, ("mark", 1), ("sign", 0, 0, 1), ("share", (4,))):
            self.assertIs(quiet_glass(THREE, with_words(glass, 1, 2, word, word)), True)
        self.assertIs(quiet_glass(THREE, with_state(glass, 0, parent=0, deficit=3, share=(), said=False)), True)


class SumsTest(unittest.TestCase):
    def setUp(self):
        """A glass in which a lot is on its way: of three houses."""
        glass = given_glass(THREE, first_glass(THREE), (0, 2))
        deeds = [("do", 0), ("take", 0, 1), ("take", 0, 1), ("do", 1), ("do", 1), ("take", 1, 2), ("take", 1, 1)]
        for move in deeds:
            glass = moved(THREE, glass, move)
        self.glass = glass

    def test_the_glass(self):
        states, ways = self.glass
        self.assertEqual(states[0], ((), 0, 3, 3, 0, False, (0, 0, 0), (3,), False))
        self.assertEqual(states[1][:7], (((2, 0),), 0, 4, 4, 3, True, None))
        self.assertEqual(states[2][:7], (((1, 0),), 1, 0, 0, 1, True, None))
        self.assertEqual([way[:2] for way in ways], [(0, 0), (1, 0), (1, 1), (1, 2)])
        self.assertEqual(broken(THREE, self.glass), ())
        self.assertEqual(plain_broken(THREE, self.glass), ())

    def check(self, glass, *words):
        self.assertIs(is_glass(THREE, glass), True)
        self.assertEqual(plain_broken(THREE, glass), words)
        self.assertEqual(broken(THREE, glass), words)

    def test_each_by_itself(self):
        glass = self.glass
        state = glass[0][0]
        self.check(with_state(glass, 0, sent=4), "counts")
        self.check(with_state(glass, 0, heard=1), "counts")
        self.check(with_state(glass, 2, heard=glass[0][2][4] - 1), "counts")
        self.check(with_state(glass, 0, share=(4,)), "shares")
        self.check(with_state(glass, 0, share=()), "shares")
        self.check(with_state(glass, 0, share=(0,)), "shares")
        self.check(with_state(glass, 0, share=(2,)), "shares")
        self.check(with_state(glass, 0, deficit=4), "deficits")
        self.check(with_state(glass, 0, deficit=2), "deficits")
        self.check(with_words(glass, 1, 0, ANSWER, *words_on(glass, 1, 0)), "deficits")
        self.check(with_state(glass, 0, parent=None), "tree")
        self.check(with_state(glass, 0, sign=None), "sign")
        self.check(with_state(glass, 1, sign=(0, 0, 0)), "sign")
        self.check(with_words(glass, 2, 2, ("sign", 0, 0, 0), *words_on(glass, 2, 2)), "sign")
        self.check(with_words(with_state(glass, 0, sign=None), 2, 2, ("sign", 0, 0, 0), *words_on(glass, 2, 2)))
        said = with_words(with_state(glass, 0, sign=None, said=True), 2, 2, ("sign", 0, 0, 0), *words_on(glass, 2, 2))
        self.check(said, "sign")
        self.check(with_state(glass, 0, said=True))
        self.check(with_words(glass, 2, 2, ("mark", 0), *words_on(glass, 2, 2)))
        self.assertEqual(state[1], 0)

    def test_shares_just_where_tasks_are(self):
        glass = self.glass
        busy = [house for house in (1, 2) if glass[0][house][0]]
        self.assertEqual(busy, [1, 2])
        for house in busy:
            self.check(with_state(glass, house, bag=()), "shares")
            self.check(with_state(glass, house, share=()), "shares")
        quiet = run_out(THREE, glass)[0]
        self.check(with_state(quiet, 0, share=(1,)), "shares")
        # The whole, but some of it in a house without tasks; or all of it elsewhere than in house 0.
        self.check(with_state(with_state(quiet, 0, share=(1,)), 1, share=(1,)), "shares")
        self.check(with_words(with_state(quiet, 0, share=()), 1, 0, ("share", (0,))), "shares")
        self.check(with_words(with_state(quiet, 0, share=(1,)), 1, 0, ("share", (1,))))
        self.check(with_words(quiet, 1, 0, ("share", (1,))), "shares")
        self.check(with_words(quiet, 1, 0, ("share", (10 ** 3,))), "shares")

    def test_great_numbers(self):
        glass = first_glass(THREE)
        big = 99999999999999999999
        self.assertEqual(broken(THREE, with_state(glass, 0, share=(big,))), ("shares",))
        self.assertEqual(broken(THREE, with_state(glass, 0, sent=big)), ("counts",))
        self.assertEqual(broken(THREE, with_state(with_state(glass, 0, sent=big), 2, heard=big)), ())
        self.assertEqual(broken(THREE, with_state(glass, 1, deficit=big, parent=0)), ("deficits", "tree"))

    def test_trees(self):
        glass = first_glass(SIX)
        for house, parent in [(5, 4), (4, 3), (3, 2), (2, 1), (1, 0)]:
            glass = with_state(glass, house, parent=parent)
            glass = with_state(glass, parent, deficit=1)
        self.assertEqual(broken(SIX, glass), ("tree",))
        glass = with_state(glass, 0, parent=0)
        self.assertEqual(broken(SIX, glass), ())
        for house, parent in [(1, 1), (2, 2), (1, 5), (3, 5), (2, None), (1, None)]:
            other = with_state(glass, house, parent=parent)
            self.assertIn("tree", broken(SIX, other))
            self.assertEqual(broken(SIX, other), plain_broken(SIX, other))
        # A task, a deficit, a parent, each by itself.
        for items in ({"bag": ((0, 0),)}, {"deficit": 1}, {"parent": 2}):
            self.assertIn("tree", broken(SIX, with_state(first_glass(SIX), 3, **items)))
            self.assertIn("tree", broken(SIX, with_state(first_glass(SIX), 0, bag=((0, 0),))))
        # Its own parent: house 0 alone may be.
        self.assertEqual(broken(SIX, with_state(first_glass(SIX), 0, parent=0)), ())

    def test_several_in_their_order(self):
        glass = with_state(self.glass, 0, sent=9, share=(9,), deficit=9, parent=None, sign=None)
        self.check(glass, *SUMS)
        self.check(with_state(self.glass, 0, sent=9, deficit=0), "counts", "deficits")
        self.check(with_state(self.glass, 0, parent=None, sign=None), "tree", "sign")
        self.check(with_state(self.glass, 0, share=(), sign=None), "shares", "sign")

    def test_any_form(self):
        chance = random.Random(5)
        seen = {}
        for works in EACH:
            glasses = [pair[0] for pair in run(works, chance, 150, True)]
            for _ in range(250):
                glass = self.changed(works, chance, chance.choice(glasses))
                if chance.randrange(2):
                    glass = self.changed(works, chance, glass)
                self.assertIs(is_glass(works, glass), True)
                words = broken(works, glass)
                self.assertEqual(words, plain_broken(works, glass))
                seen[words] = True
        self.assertGreater(len(seen), 10)

    def changed(self, works, chance, glass):
        house, other = chance.randrange(works.many), chance.randrange(works.many)
        words = words_on(glass, house, other)
        what = chance.randrange(9)
        if what == 0:
            return with_state(glass, house, deficit=chance.randrange(4))
        if what == 1:
            return with_state(glass, house, parent=other if house > 0 else 0)
        if what == 2:
            return with_state(glass, house, parent=None)
        if what == 3:
            return with_state(glass, house, share=tuple(sorted(chance.sample(range(1, 6), chance.randrange(4)))))
        if what == 4:
            return with_state(glass, house, sign=chance.choice([None, (1, 1, 0)]))
        if what == 5:
            return with_state(glass, house, bag=chance.choice([(), ((0, 0),)]))
        if what == 6:
            return with_state(glass, house, sent=chance.randrange(9))
        if what == 7:
            return with_words(glass, house, other, *words[1:])
        word = chance.choice([ANSWER, ("task", 0, 0, (3,)), ("share", (2,)), ("sign", 0, 0, 0), ("mark", 2)])
        return with_words(glass, house, other, *(words + (word,)))

    def test_lies(self):
        busy = given_glass(THREE, first_glass(THREE), (2, 0))
        self.assertEqual(lies_told(THREE, busy), ())
        self.assertEqual(lies_told(THREE, with_state(busy, 0, parent=None)), ("tree",))
        self.assertEqual(lies_told(THREE, with_state(busy, 0, said=True)), ("ring",))
        late = with_words(with_state(busy, 0, bag=()), 1, 2, ("task", 2, 0, (1,)))
        self.assertEqual(lies_told(THREE, late), ("coin",))
        self.assertEqual(lies_told(THREE, with_state(late, 0, said=True, parent=None)), ("tree", "ring", "coin"))
        self.assertEqual(lies_told(THREE, with_state(late, 0, share=(1,), parent=None)), ("tree",))
        away = with_state(first_glass(THREE), 2, bag=((2, 0),))
        self.assertEqual(lies_told(THREE, away), ("tree", "ring", "coin"))
        self.assertEqual(lies_told(THREE, first_glass(THREE)), ())
        self.assertEqual(lies_told(THREE, with_words(first_glass(THREE), 1, 2, ANSWER)), ())

    def test_fact_of_sums(self):
        chance = random.Random(6)
        for works in EACH:
            said = 0
            for glass, _ in run(works, chance, 400, True):
                self.assertEqual((broken(works, glass), lies_told(works, glass)), ((), ()))
                self.assertIs(is_glass(works, glass), True)
                said += any(says(works, glass[0][0]))
            self.assertGreater(said, 0)


class MovesTest(unittest.TestCase):
    def test_moves_of_runs(self):
        chance = random.Random(7)
        for works in EACH:
            for glass, _ in run(works, chance, 200, True):
                found = moves(works, glass)
                self.assertIsInstance(found, tuple)
                self.assertEqual(found, plain_moves(glass))
                self.assertEqual(list(found), sorted(set(found)))
                for move in found:
                    self.assertEqual(moved(works, glass, move), plain_moved(works, glass, move))

    def test_ascending(self):
        glass = given_glass(THREE, first_glass(THREE), (2, 0))
        glass = with_state(glass, 2, bag=((2, 0),), share=(1,), sign=(1, 1, 0))
        glass = with_state(glass, 1, sign=(3, 3, 1))
        for sender, to in ((2, 0), (0, 1), (1, 1), (0, 2)):
            glass = with_words(glass, sender, to, ("mark", 4))
        takes = (("take", 0, 1), ("take", 0, 2), ("take", 1, 1), ("take", 2, 0))
        self.assertEqual(moves(THREE, glass), (("do", 0), ("do", 2), ("pass", 1)) + takes)

    def test_a_run_by_hand(self):
        glass = given_glass(WORKS, first_glass(WORKS), (0, 1))
        self.assertEqual(moves(WORKS, glass), (("do", 0),))
        glass = moved(WORKS, glass, ("do", 0))
        self.assertEqual(glass[1], ((0, 1, (("task", 0, 0, (1,)),)),))
        self.assertEqual(moves(WORKS, glass), (("pass", 0), ("take", 0, 1)))
        glass = moved(WORKS, glass, ("pass", 0))
        self.assertEqual(glass[1], ((0, 1, (("task", 0, 0, (1,)), ("sign", 0, 0, 0))),))
        self.assertEqual(moves(WORKS, glass), (("take", 0, 1),))
        glass = moved(WORKS, glass, ("take", 0, 1))
        self.assertEqual(glass[1], ((0, 1, (("sign", 0, 0, 0),)),))
        self.assertEqual(moves(WORKS, glass), (("do", 1), ("take", 0, 1)))
        glass = moved(WORKS, glass, ("do", 1))
        self.assertEqual(glass[1], ((0, 1, (("sign", 0, 0, 0),)), (1, 0, (ANSWER, ("share", (1,))))))
        glass = moved(WORKS, glass, ("take", 1, 0))
        self.assertEqual(says(WORKS, glass[0][0]), (True, False, False))
        glass = moved(WORKS, glass, ("take", 1, 0))
        self.assertEqual(says(WORKS, glass[0][0]), (True, False, True))

    def test_first_word_of_a_way(self):
        glass = with_words(first_glass(THREE), 1, 1, ("mark", 3), ("mark", 4))
        self.assertEqual(moved(THREE, glass, ("take", 1, 1))[1], ((1, 1, (("mark", 4),)),))
        # What is sent by taking comes behind what was there, also over the same way.
        glass = with_state(first_glass(THREE), 1, parent=0)
        task = ("task", 2, 0, (1,))
        glass = with_words(glass, 1, 1, task, ("mark", 4))
        self.assertEqual(moved(THREE, glass, ("take", 1, 1))[1], ((1, 1, (("mark", 4), ANSWER)),))

    def no_move(self, glass, move):
        with self.assertRaises(NoMove, msg=repr(move)[:80]):
            moved(THREE, glass, move)

    def test_what_is_no_move(self):
        glass = given_glass(THREE, first_glass(THREE), (0, 1))
        glass = with_words(with_state(glass, 1, bag=((2, 0),), share=(1,)), 0, 1, ("mark", 0))
        glass = with_words(glass, 1, 0, ("mark", 0))
        self.assertEqual(moves(THREE, glass), (("do", 0), ("do", 1), ("take", 0, 1), ("take", 1, 0)))
        wrong = [
            (), "do", ["do", 0], ("do",), ("do", 0, 0), ("do", True), ("do", False), ("do", "0"), ("do", 3), ("do", -1),
            ("do", None), ("do", (0,)), ("take", False, True), ("take", 0, True), ("take", 0), ("take", 0, 1, 0),
            ("take", (0, 1)), ("take", 3, 0), ("take", 0, 3), ("take", -1, 0), ("Do", 0), (b"do", 0), (None, 0), (0, 0),
            ("give", 0), ("give", (0, 0)), ("pass",), ("pass", False), ("do\n", 0), ("hear", 0, 1), ("picture", 0),
        ]
        # What can't be next.
        wrong += [("do", 2), ("pass", 0), ("pass", 1), ("pass", 2), ("take", 0, 0), ("take", 1, 1), ("take", 2, 0)]
        wrong += odd_things() + [("do", thing) for thing in odd_numbers()]
        wrong += [("take", 0, thing) for thing in odd_numbers()] + [("take", thing, 1) for thing in odd_numbers()]
        for move in wrong:
            self.no_move(glass, move)

    def test_words_that_are_none_then(self):
        glass = first_glass(THREE)
        for sender, to, word in [
            (1, 0, ANSWER), (0, 1, ANSWER), (1, 0, ("sign", 0, 0, 0)), (0, 1, ("share", (1,))), (1, 0, ("share", (1,))),
            (2, 0, ("task", 0, 0, (5,))),
        ]:
            self.no_move(with_words(glass, sender, to, word, ("mark", 1)), ("take", sender, to))

    def test_no_share_to_halve(self):
        glass = with_state(first_glass(THREE), 1, bag=((1, 1),))
        self.no_move(glass, ("do", 1))
        self.assertEqual(moved(THREE, with_state(glass, 1, bag=((2, 1),)), ("do", 1)), first_glass(THREE))
        self.no_move(with_state(glass, 0, share=(), bag=((1, 1),)), ("do", 0))

    def test_given(self):
        for works in EACH:
            glass = first_glass(works)
            state = gifted(works, glass[0][0], (0, 1))[0]
            self.assertEqual(given_glass(works, glass, (0, 1)), ((state,) + glass[0][1:], ()))
        glass = with_words(given_glass(THREE, first_glass(THREE), (1, 0)), 1, 2, ANSWER)
        behind = given_glass(THREE, glass, (2, 5))
        self.assertEqual(behind[0][0][0], ((1, 0), (2, 5)))
        self.assertEqual((behind[0][1:], behind[1]), (glass[0][1:], glass[1]))
        many = Works(1, (((0, 0),) * 4,))
        for thing in odd_things() + [(1, 0), (0, 13), (0,), (), (0, 5), (0, 12)]:
            if thing != (0, 0):
                with self.assertRaises(NoTask):
                    given_glass(many, first_glass(many), thing)


class RunOutTest(unittest.TestCase):
    def plain_run_out(self, works, glass):
        many = 0
        while moves(works, glass):
            links = {way[:2]: way[2] for way in glass[1]}
            found = moves(works, glass)
            of_sign = [
                move for move in found
                if move[0] == "pass" or (move[0] == "take" and links[move[1:]][0][0] == "sign")
            ]
            others = [move for move in found if move not in of_sign]
            glass = plain_moved(works, glass, (others + of_sign)[0])
            many += 1
        return (glass, many)

    def test_order_and_number(self):
        chance = random.Random(8)
        for works in EACH:
            glasses = [pair[0] for pair in run(works, chance, 120, True)]
            for glass in chance.sample(glasses, 12) + glasses[:3]:
                found = run_out(works, glass)
                self.assertEqual(found, self.plain_run_out(works, glass))
                end = found[0]
                self.assertEqual((moves(works, end), end[1]), ((), ()))
                self.assertEqual(says(works, end[0][0]), (True, True, True))
                self.assertTrue(quiet_glass(works, end))
                self.assertEqual(run_out(works, end), (end, 0))

    def test_by_hand(self):
        glass = given_glass(WORKS, first_glass(WORKS), (0, 0))
        behind = gifted(WORKS, begun(WORKS, 0), (0, 0))[0]
        state = passed(WORKS, 0, done(WORKS, 0, behind)[0])[0]
        self.assertEqual(run_out(WORKS, glass), (((state,) + glass[0][1:], ()), 2))
        self.assertEqual(run_out(WORKS, first_glass(WORKS)), (first_glass(WORKS), 0))
        # Do, take, do, take the answer, take the share; then the sign: it is passed by 0, taken, passed, taken, ..
        glass = given_glass(WORKS, first_glass(WORKS), (0, 1))
        self.assertEqual(run_out(WORKS, glass)[1], 14)

    def test_marks_are_taken(self):
        glass = with_words(first_glass(WORKS), 1, 0, ("mark", 3), ("mark", 3))
        self.assertEqual(run_out(WORKS, glass), (first_glass(WORKS), 2))

    def test_fact_of_ends(self):
        chance = random.Random(9)
        for works in EACH:
            for _ in range(12):
                glass = chance.choice(run(works, chance, 80, True))[0]
                # Moves but the sign's, in any order; a sign is taken where nothing else can be, for tasks behind it.
                while True:
                    links = {way[:2]: way[2] for way in glass[1]}
                    takes = [move for move in moves(works, glass) if move[0] == "take"]
                    of_sign = [move for move in takes if links[move[1:]][0][0] == "sign"]
                    can = [move for move in moves(works, glass) if move[0] != "pass" and move not in of_sign]
                    if not can and not (of_sign and len(links[of_sign[0][1:]]) > 1):
                        break
                    glass = moved(works, glass, chance.choice(can or of_sign))
                self.assertTrue(quiet_glass(works, glass))
                told = says(works, glass[0][0])
                self.assertEqual((told[0], told[2]), (True, True))
                left = signs_left(works, glass)
                sent = 0
                while moves(works, glass):
                    self.assertFalse(says(works, glass[0][0])[1])
                    move = chance.choice(moves(works, glass))
                    before = len([1 for way in glass[1] for word in way[2]])
                    glass = moved(works, glass, move)
                    sent += move[0] == "pass" and len([1 for way in glass[1] for word in way[2]]) > before
                self.assertEqual(sent, left)
                self.assertEqual(says(works, glass[0][0]), (True, True, True))

    def test_errors_in_order(self):
        many = Works(1, (((0, 0),) * 4,))
        glass = with_state(first_glass(many), 0, bag=((0, 12),), parent=0, said=False)
        self.assertEqual(broken(many, glass), ())
        for other in (glass, with_state(glass, 0, share=(1,)), with_words(with_state(glass, 0, bag=()), 0, 0, ("task", 0, 12, (1,)))):
            with self.assertRaises(TooMany) as caught:
                run_out(many, other)
            self.assertEqual(caught.exception.most, 20000)
        with self.assertRaises(Broken):
            run_out(many, with_state(first_glass(many), 0, share=(1,)))
        for items in ({"sent": 1}, {"share": (1,)}, {"deficit": 1, "parent": 0}, {"bag": ((0, 0),)}, {"sign": None, "said": False}):
            with self.assertRaises(Broken):
                run_out(WORKS, with_state(first_glass(WORKS), 0, **items))

    def test_20000_and_one_more(self):
        # A task of fuel 12 and the 12 that come of it, one by one: 13 each.
        works = Works(1, (((0, 0),), ()))
        bag = ((0, 12),) * 1538 + ((1, 0),) * 6
        self.assertEqual(sum(many_tasks(works, task) for task in bag), 20000)
        glass = with_state(first_glass(works), 0, bag=bag, parent=0, said=False)
        for other in (
            with_state(glass, 0, bag=bag + ((1, 3),)), with_state(glass, 0, bag=((0, 12),) * 1539),
            with_words(with_state(glass, 0, sent=1, deficit=1, share=(1,)), 0, 0, ("task", 1, 0, (1,))),
        ):
            self.assertEqual(broken(works, other), ())
            with self.assertRaises(TooMany):
                run_out(works, other)
        plain = with_state(glass, 0, bag=((1, 0),) * 20000)
        end, many = run_out(works, plain)
        self.assertEqual((end[0][0][0], many), ((), 20001))
        with self.assertRaises(TooMany):
            run_out(works, with_state(glass, 0, bag=((1, 0),) * 20001))

    def test_a_way_that_stands_still(self):
        # By form alone a share may be on its way to another house, where it never is a word: no sum is broken by it.
        glass = with_words(with_state(first_glass(WORKS), 0, share=(1,)), 0, 1, ("share", (1,)), ("mark", 1))
        glass = with_words(glass, 1, 0, ("mark", 1))
        self.assertEqual(broken(WORKS, glass), ())
        end, many = run_out(WORKS, glass)
        self.assertEqual((end[1], many), (((0, 1, (("share", (1,)), ("mark", 1))),), 1))


class PicturedTest(unittest.TestCase):
    def test_parts(self):
        parts = (
            (begun(WORKS, 0), ((0, (("sign", 1, 1, 0),)), (1, (ANSWER, ("share", (2,))))), True),
            (begun(WORKS, 1), ((0, (("task", 0, 0, (1,)),)),), True),
        )
        ways = (
            (0, 0, (("sign", 1, 1, 0),)), (0, 1, (("task", 0, 0, (1,)),)), (1, 0, (ANSWER, ("share", (2,)))),
        )
        self.assertEqual(pictured(WORKS, parts), ((begun(WORKS, 0), begun(WORKS, 1)), ways))
        parts = tuple((begun(SIX, house), (), True) for house in range(6))
        self.assertEqual(pictured(SIX, parts), first_glass(SIX))

    def test_no_parts(self):
        first, other = (begun(WORKS, 0), (), True), (begun(WORKS, 1), (), True)
        pictured(WORKS, (first, other))
        wrong = [
            (), (first,), (first, other, other), [first, other], (other, first), (first, first), (first, None), None,
            (first, other[:2] + (False,)), (first[:2] + (False,), other), (first, other[:2]), (first, other + (True,)),
            (first, list(other)), (first, other[:2] + (1,)), (first, other[:2] + (None,)), (first, ((), (), True)),
            (first, (begun(WORKS, 1)[:8], (), True)), (first, (begun(WORKS, 1), [], True)), (first, (begun(WORKS, 1), None, True)),
        ]
        for kept in [
            ((0, ()),), ((2, (ANSWER,)),), ((0, [ANSWER]),), ([0, (ANSWER,)],), ((0, (ANSWER,), 0),), ((0,),), (0, (ANSWER,)),
            ((1, (ANSWER,)), (0, (ANSWER,))), ((0, (ANSWER,)), (0, (ANSWER,))), ((0, (("mark", 1),)),), ((0, (None,)),),
            ((True, (ANSWER,)),), ((-1, (ANSWER,)),), ((0, (("share", ()),)),), ((0, ANSWER),),
        ]:
            wrong += [(first, (begun(WORKS, 1), kept, True)), ((begun(WORKS, 0), kept, True), other)]
        wrong += odd_things() + [(first, thing) for thing in odd_things()] + [(thing, other) for thing in odd_things()]
        wrong += [(first, (begun(WORKS, 1), thing, True)) for thing in odd_things()]
        wrong += [(first, (thing, (), True)) for thing in odd_things()]
        wrong += [(first, other[:2] + (thing,)) for thing in odd_things() if thing is not True]
        for thing in wrong:
            with self.assertRaises(NoParts, msg=repr(thing)[:150]):
                pictured(WORKS, thing)


class Net:
    """Posts whose letters come late, doubled, lost, in any order, and an account beside them."""

    def __init__(self, works, chance):
        self.works, self.chance = works, chance
        self.posts = [Post(works, house) for house in range(works.many)]
        self.plain = [PlainPost(works, house) for house in range(works.many)]
        self.bag = []
        # Moves in the order in which they were made, and the glass ahead of the first move behind a picture's beginning.
        self.moves = []
        self.starts = {}
        self.ends = {}

    def glass(self):
        """The glass of this moment, without marks."""
        ways = []
        for one in self.plain:
            for other in self.plain:
                words = one.puts[other.number][len(other.took[one.number]):]
                words = tuple(word for word in words if word[0] != "mark")
                ways += [(one.number, other.number, words)] if words else []
        return (tuple(post.state() for post in self.posts), tuple(ways))

    def deed(self, house, deed):
        if self.plain[house].can(deed):
            if deed[0] == "picture":
                self.starts.setdefault(deed[1], (len(self.moves), self.glass()))
            self.posts[house].deed(deed)
            self.plain[house].deed(deed)
            self.noted(house)

    def noted(self, house):
        self.moves += self.plain[house].log
        self.plain[house].log = []

    def bring(self, to, row):
        _, sender, _, taken, items = unsealed(row)[0]
        if self.posts[to].deed(("hear", row)) == "new":
            self.plain[to] = self.plain[to].hear((sender, taken, items))
            self.noted(to)
        for number in self.starts:
            parts = [post.part_of(number) for post in self.posts]
            if number not in self.ends and all(part is not None and part[2] for part in parts):
                self.ends[number] = (len(self.moves), self.glass())

    def step(self, gifts):
        chance, many = self.chance, self.works.many
        house = chance.randrange(many)
        what = chance.randrange(10)
        if what < 3:
            self.deed(house, chance.choice([("do",), ("do",), ("pass",)]))
        elif what == 3 and gifts and chance.randrange(3) == 0:
            self.deed(0, ("give", some_task(self.works, chance)))
        elif what == 4 and chance.randrange(4) == 0:
            self.deed(house, ("picture", chance.randrange(8)))
        elif what < 8:
            to = chance.randrange(many)
            self.bag.append((to, self.posts[house].letter(to)))
        elif self.bag:
            at = chance.randrange(len(self.bag))
            self.bring(*self.bag[at])
            if chance.randrange(3):
                self.bag.pop(at)
        if len(self.bag) > 25:
            self.bag = chance.sample(self.bag, 6)

    def settle(self):
        for _ in range(60):
            for house in range(self.works.many):
                self.deed(house, ("do",))
                for to in range(self.works.many):
                    self.bring(to, self.posts[house].letter(to))


class FactOfPicturesTest(unittest.TestCase):
    def replay(self, works, glass, moves_made):
        for move in moves_made:
            glass = given_glass(works, glass, move[1]) if move[0] == "give" else moved(works, glass, move)
        return glass

    def test_pictures_of_runs(self):
        seen, quiet = 0, 0
        for seed in range(10):
            works = EACH[seed % 5]
            net = Net(works, random.Random(seed))
            for step in range(500):
                net.step(seed < 7 or step < 100)
                self.assertEqual([post.past() for post in net.posts], [mine.past() for mine in net.plain])
            net.settle()
            for number in net.starts:
                parts = tuple(post.part_of(number) for post in net.posts)
                glass = pictured(works, parts)
                self.assertIs(is_glass(works, glass), True)
                self.assertEqual((broken(works, glass), lies_told(works, glass)), ((), ()))
                (first, start), (last, end) = net.starts[number], net.ends[number]
                ahead = [move for move, numbers in net.moves[first:last] if number not in numbers]
                behind = [move for move, numbers in net.moves[first:last] if number in numbers]
                self.assertEqual(self.replay(works, start, ahead), glass)
                self.assertEqual(self.replay(works, glass, behind), end)
                seen += 1
                if quiet_glass(works, glass) and not [move for move in behind if move[0] == "give"]:
                    quiet += 1
                    self.assertTrue(quiet_glass(works, end))
        self.assertGreater(seen, 20)
        self.assertGreater(quiet, 3)

    def test_open_parts(self):
        posts = [Post(WORKS, house) for house in range(2)]
        posts[0].deed(("picture", 1))
        posts[1].deed(("picture", 1))
        with self.assertRaises(NoParts):
            pictured(WORKS, (posts[0].part_of(1), posts[1].part_of(1)))
        for one in posts:
            for other in posts:
                self.assertEqual(other.deed(("hear", one.letter(other.number))), "new")
        self.assertEqual(pictured(WORKS, (posts[0].part_of(1), posts[1].part_of(1))), first_glass(WORKS))


if __name__ == "__main__":
    unittest.main()
