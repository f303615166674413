"""States of houses, words, deeds: points 3.1, 3.2, 3.3."""

import unittest

from knownquiet.errors import NoHouse, NoShare, NoSign, NoTask, NothingThere, NoWord
from knownquiet.states import begun, done, gifted, heard, is_state, is_word, passed, says
from knownquiet.works import Works, many_tasks
from tests.odd import nested, odd_numbers, odd_things

WORKS = Works(2, (((1, 0),),))
# Kind 0 sends to the next and to itself, kind 1 sends one to the house before, kind 2 nothing.
THREE = Works(3, (((1, 1), (0, 2), (1, 0)), ((2, 2),), ()))
FOUR_EACH = Works(1, (((0, 0),) * 4,))
BIG = 99999999999999999999
FIRST = ((), None, 0, 0, 0, False, (0, 0, 0), (0,), True)
OTHER = ((), None, 0, 0, 0, False, None, (), False)
# Works, a task, how many tasks come of it.
EXACT = (
    (Works(1, (((0, 1), (0, 0), (0, 2)), ((0, 0), (0, 0), (0, 1), (0, 1)), ((0, 1), (0, 1)))), (0, 5), 500),
    (Works(1, (((0, 1),), ((0, 0), (0, 2), (0, 2)), ((0, 1), (0, 2)))), (0, 8), 501),
)
ANSWER = ("answer",)
NO_SHARES = [None, 0, (0, 1), (1, 1), (2, 1), [1], (-1,), (True,), ("1",), "", {}, ((1,),)]


def with_items(state, **items):
    """A state with other items, by their names."""
    names = ["bag", "parent", "deficit", "sent", "heard", "black", "sign", "share", "said"]
    found = list(state)
    for name, item in items.items():
        found[names.index(name)] = item
    return tuple(found)


class BegunTest(unittest.TestCase):
    def test_begun(self):
        self.assertEqual(repr(begun(WORKS, 0)), repr(FIRST))
        self.assertEqual(repr(begun(WORKS, 1)), repr(OTHER))
        self.assertEqual(begun(THREE, 2), OTHER)
        for works in (WORKS, THREE, FOUR_EACH):
            for house in range(works.many):
                self.assertIs(is_state(works, house, begun(works, house)), True)

    def test_no_house(self):
        for thing in odd_numbers() + [3, BIG]:
            with self.assertRaises(NoHouse, msg=repr(thing)[:60]):
                begun(THREE, thing)
            with self.assertRaises(NoHouse):
                is_state(THREE, thing, OTHER)
            with self.assertRaises(NoHouse):
                is_state(THREE, thing, thing)


class WordTest(unittest.TestCase):
    def test_words(self):
        words = [
            ("task", 0, 0, (0,)), ("task", 2, 12, (1, 5)), ("task", 1, 1, (BIG,)), ANSWER, ("sign", 0, 0, 0),
            ("sign", BIG, 7, 1), ("sign", 3, BIG, 0), ("share", (0,)), ("share", (1, 2, 3)), ("mark", 0), ("mark", 999),
            ("share", tuple(range(1, 600))),
        ]
        for word in words:
            self.assertIs(is_word(THREE, word), True, word)

    def test_what_is_no_word(self):
        things = [
            (), "answer", ["answer"], ("answer", 0), ("answer", ()), ("answers",), ("Answer",), (b"answer",), (ANSWER,),
            ("task",), ("task", 0, 0), ("task", 0, 0, (1,), 0), ("task", (0, 0), (1,)), ("task", 3, 0, (1,)),
            ("task", -1, 0, (1,)), ("task", True, 0, (1,)), ("task", 0, 13, (1,)), ("task", 0, -1, (1,)),
            ("task", 0, False, (1,)), ("task", "0", 0, (1,)), ("task", None, 0, (1,)), ("task", 0, 0, ()),
            ("sign",), ("sign", 0, 0), ("sign", 0, 0, 0, 0), ("sign", 0, 0, 2), ("sign", 0, 0, -1),
            ("sign", 0, 0, False), ("sign", 0, 0, True), ("sign", -1, 0, 0), ("sign", 0, -1, 0), ("sign", True, 0, 0),
            ("sign", 0, None, 0), ("sign", (0, 0, 0)), ("share",), ("share", ()), ("share", 1), ("share", (1,), (2,)),
            ("mark",), ("mark", 1000), ("mark", -1), ("mark", True), ("mark", None), ("mark", "0"), ("mark", 0, 0),
            ("mark", (0,)), ("done",), ("", 0), (None,), (0,), ("task\n", 0, 0, (1,)), [("mark", 0)],
        ]
        things += [("share", share) for share in NO_SHARES] + [("task", 0, 0, share) for share in NO_SHARES]
        for thing in things + odd_things():
            self.assertIs(is_word(THREE, thing), False, repr(thing)[:60])
        for thing in odd_things():
            self.assertIs(is_word(THREE, ("share", thing)), False)
            self.assertIs(is_word(THREE, ("task", 0, 0, thing)), False)
            self.assertIs(is_word(THREE, (thing,)), False)
            self.assertIs(is_word(THREE, (thing, thing)), False)
        for thing in odd_numbers():
            self.assertIs(is_word(THREE, ("mark", thing)), False)
            self.assertIs(is_word(THREE, ("sign", thing, 0, 0)), False)
            self.assertIs(is_word(THREE, ("sign", 0, thing, 0)), False)
            self.assertIs(is_word(THREE, ("sign", 0, 0, thing)), False)


class IsStateTest(unittest.TestCase):
    def test_states_by_form_alone(self):
        for house in (0, 1, 2):
            for state in [
                OTHER, with_items(OTHER, sign=(5, BIG, 1)), with_items(OTHER, bag=((0, 12), (2, 0))),
                with_items(OTHER, deficit=BIG, sent=3, heard=BIG), with_items(OTHER, black=True),
                with_items(OTHER, share=(0,)), with_items(OTHER, share=(3, 4, 9)), with_items(OTHER, sign=(0, 0, 0)),
            ]:
                self.assertIs(is_state(THREE, house, state), True, state)
        for parent in (0, 1, 2):
            self.assertIs(is_state(THREE, 1, with_items(OTHER, parent=parent)), True)
            self.assertIs(is_state(THREE, 0, with_items(FIRST, parent=parent)), parent == 0)
            self.assertIs(is_state(THREE, 2, with_items(OTHER, parent=parent)), True)
        self.assertIs(is_state(THREE, 0, with_items(FIRST, said=False)), True)
        self.assertIs(is_state(THREE, 1, FIRST), False)
        self.assertIs(is_state(THREE, 2, with_items(OTHER, said=True)), False)

    def test_each_part_otherwise(self):
        wrong = {
            "bag": [[], [(0, 0)], ((0, 13),), ((3, 0),), ((0, 0), ()), (0, 0), "", {}, ((0, 0, 0),), ([0, 0],)],
            "parent": [3, -1, BIG, True, False, "0", (), (0,), b""],
            "deficit": [-1, True, False, None, "0", (), b"\x00"],
            "sent": [-1, True, False, None, "0", (), [0]],
            "heard": [-1, True, False, None, "0", (), {}],
            "black": [0, 1, None, "", (), "False"],
            "sign": [(), (0, 0), (0, 0, 2), (0, 0, -1), (0, 0, False), (-1, 0, 0), (0, True, 0), [0, 0, 0], 0, False,
                     (0, 0, 0, 0), ("sign", 0, 0, 0)],
            "share": NO_SHARES,
            "said": [0, 1, None, "", ()],
        }
        right = {"bag": [((0, 0),)], "parent": [None], "sign": [None], "black": [True, False], "said": [True, False]}
        for house, state in ((0, FIRST), (1, OTHER)):
            for name, things in wrong.items():
                self.assertIs(is_state(WORKS, house, state), True)
                for thing in things + [thing for thing in odd_things() if thing not in right.get(name, [])]:
                    other = with_items(state, **{name: thing})
                    self.assertIs(is_state(WORKS, house, other), False, (name, repr(thing)[:60]))

    def test_what_is_no_state(self):
        for house in (0, 1):
            for thing in odd_things() + [(), list(OTHER), OTHER[:8], OTHER + (False,), (OTHER,), OTHER + (), "a" * 9]:
                if thing != OTHER:
                    self.assertIs(is_state(WORKS, house, thing), False)


class GiftedTest(unittest.TestCase):
    def test_gifts(self):
        state, out = gifted(WORKS, begun(WORKS, 0), (0, 1))
        self.assertEqual(state, (((0, 1),), 0, 0, 0, 0, False, (0, 0, 0), (0,), False))
        self.assertEqual(out, ())
        state, out = gifted(WORKS, state, (0, 3))
        self.assertEqual((state, out), ((((0, 1), (0, 3)), 0, 0, 0, 0, False, (0, 0, 0), (0,), False), ()))

    def test_the_rest_stays(self):
        state = (((0, 2),), 0, 3, 4, 5, True, None, (2, 3), True)
        behind = (((0, 2), (0, 0)), 0, 3, 4, 5, True, None, (2, 3), False)
        self.assertEqual(gifted(WORKS, state, (0, 0)), (behind, ()))
        self.assertIs(gifted(WORKS, state, (0, 0))[0][8], False)
        self.assertEqual(gifted(WORKS, FIRST, (0, 0))[0][1], 0)

    def test_no_task(self):
        for thing in odd_things() + [(), (0,), (0, 13), (1, 0), (0, 0, 0), [0, 0]]:
            with self.assertRaises(NoTask):
                gifted(WORKS, FIRST, thing)

    def test_too_many(self):
        # 1 + 4 + .. : 341 tasks of fuel 4, 1365 of fuel 5.
        self.assertEqual(gifted(FOUR_EACH, FIRST, (0, 4))[0][0], ((0, 4),))
        with self.assertRaises(NoTask):
            gifted(FOUR_EACH, FIRST, (0, 5))

    def test_just_too_many(self):
        # A chain of kinds with which 500 and 501 tasks come about.
        works = Works(1, (((0, 0), (0, 0)), ((0, 0), (0, 2)), ((0, 2),)))
        found = {many_tasks(works, (kind, fuel)): (kind, fuel) for kind in range(3) for fuel in range(13)}
        self.assertTrue([many for many in found if many <= 500] and [many for many in found if many > 500])
        for many, task in found.items():
            if many > 500:
                with self.assertRaises(NoTask):
                    gifted(works, FIRST, task)
            else:
                self.assertEqual(gifted(works, FIRST, task)[0][0], (task,))

    def test_500_and_501(self):
        for works, task, many in EXACT:
            self.assertEqual(many_tasks(works, task), many)
        self.assertEqual(gifted(EXACT[0][0], FIRST, EXACT[0][1])[0][0], (EXACT[0][1],))
        with self.assertRaises(NoTask):
            gifted(EXACT[1][0], FIRST, EXACT[1][1])


class DoneTest(unittest.TestCase):
    def test_house_0_sends_and_ends(self):
        state = (((0, 1),), 0, 0, 0, 0, False, (0, 0, 0), (0,), False)
        behind = ((), 0, 1, 1, 0, False, (0, 0, 0), (1,), False)
        self.assertEqual(done(WORKS, 0, state), (behind, ((1, ("task", 0, 0, (1,))),)))

    def test_house_0_without_letters(self):
        state = (((0, 0),), 0, 0, 4, 3, True, None, (1, 2), False)
        behind = ((), None, 0, 4, 3, True, None, (1, 2), False)
        self.assertEqual(done(WORKS, 0, state), (behind, ()))
        # Its deficit keeps it awake.
        state = with_items(state, deficit=2)
        self.assertEqual(done(WORKS, 0, state), (with_items(behind, parent=0, deficit=2), ()))

    def test_halves_in_order(self):
        state = (((0, 2), (1, 0)), 1, 5, 7, 9, True, (1, 2, 0), (2, 3), False)
        behind = (((1, 0),), 1, 8, 10, 9, True, (1, 2, 0), (5, 6), False)
        out = (
            (0, ("task", 1, 1, (3, 4))), (2, ("task", 2, 1, (4, 5))), (0, ("task", 0, 1, (5, 6))),
        )
        self.assertEqual(done(THREE, 2, state), (behind, out))

    def test_another_house_ends(self):
        state = (((2, 9),), 2, 0, 0, 1, True, None, (4,), False)
        behind = ((), None, 0, 0, 1, True, None, (), False)
        self.assertEqual(done(THREE, 1, state), (behind, ((2, ("answer",)), (0, ("share", (4,))))))
        # Woken by itself.
        self.assertEqual(done(THREE, 2, state), (behind, ((2, ("answer",)), (0, ("share", (4,))))))
        # Its deficit keeps the parent, not the share.
        state = with_items(state, deficit=1)
        behind = with_items(behind, parent=2, deficit=1)
        self.assertEqual(done(THREE, 1, state), (behind, ((0, ("share", (4,))),)))
        # Letters ahead of the answer's place: the deficit is not 0 then.
        state = (((1, 1),), 0, 0, 0, 1, False, None, (0,), False)
        behind = ((), 0, 1, 1, 1, False, None, (), False)
        self.assertEqual(done(THREE, 1, state), (behind, ((0, ("task", 2, 0, (1,))), (0, ("share", (1,))))))

    def test_no_end_while_tasks_are_left(self):
        state = (((2, 0), (2, 0)), 0, 0, 0, 2, False, None, (2,), False)
        self.assertEqual(done(THREE, 1, state), (with_items(state, bag=((2, 0),)), ()))
        # Without a parent, without a share there is nothing to say.
        state = (((2, 0),), None, 0, 0, 2, False, None, (), False)
        self.assertEqual(done(THREE, 1, state), (with_items(state, bag=()), ()))

    def test_no_share(self):
        state = (((1, 1),), 0, 0, 0, 0, False, None, (), False)
        with self.assertRaises(NoShare):
            done(THREE, 1, state)
        # Without letters none is halved: no fuel, or no pairs.
        for task in ((1, 0), (2, 3)):
            self.assertEqual(done(THREE, 1, with_items(state, bag=(task,)))[1], ((0, ANSWER),))

    def test_errors_in_order(self):
        for house in odd_numbers() + [3]:
            with self.assertRaises(NoHouse):
                done(THREE, house, OTHER)
        with self.assertRaises(NothingThere):
            done(THREE, 0, FIRST)
        with self.assertRaises(NothingThere):
            done(THREE, 1, OTHER)

    def test_long_shares(self):
        state = (((1, 1),), 0, 0, 0, 0, False, None, tuple(range(1, 500)), False)
        behind, out = done(THREE, 2, state)
        self.assertEqual(out, ((1, ("task", 2, 0, tuple(range(2, 501)))), (0, ("share", tuple(range(2, 501))))))
        self.assertEqual(behind[7], ())


class HeardTest(unittest.TestCase):
    def test_a_task_wakes(self):
        behind = (((0, 4),), 1, 0, 0, 1, True, None, (3,), False)
        self.assertEqual(heard(THREE, 2, OTHER, 1, ("task", 0, 4, (3,))), (behind, ()))
        for sender in range(3):
            for house in range(3):
                parent = heard(THREE, house, OTHER, sender, ("task", 0, 4, (3,)))[0][1]
                self.assertEqual(parent, 0 if house == 0 else sender)
        # House 0 is woken by itself, whoever sends.
        state = ((), None, 0, 1, 0, False, (0, 0, 0), (1,), False)
        behind = (((0, 4),), 0, 0, 1, 1, True, (0, 0, 0), (0,), False)
        self.assertEqual(heard(THREE, 0, state, 2, ("task", 0, 4, (1,))), (behind, ()))

    def test_a_task_for_one_awake(self):
        state = (((0, 0),), 0, 2, 3, 4, False, (1, 1, 1), (2,), False)
        behind = (((0, 0), (1, 2)), 0, 2, 3, 5, True, (1, 1, 1), (1,), False)
        self.assertEqual(heard(THREE, 1, state, 2, ("task", 1, 2, (2,))), (behind, ((2, ANSWER),)))
        self.assertEqual(heard(THREE, 0, state, 0, ("task", 1, 2, (2,))), (behind, ((0, ANSWER),)))
        # Awake without tasks: only its deficit is left.
        state = with_items(state, bag=(), parent=1, share=())
        behind = with_items(state, bag=((1, 2),), heard=5, black=True, share=(2,))
        self.assertEqual(heard(THREE, 1, state, 1, ("task", 1, 2, (2,))), (behind, ((1, ANSWER),)))

    def test_said_stays(self):
        self.assertIs(heard(THREE, 0, with_items(FIRST, share=()), 1, ("task", 1, 2, (2,)))[0][8], True)

    def test_an_answer(self):
        state = (((0, 0),), 2, 2, 3, 4, False, None, (2,), False)
        self.assertEqual(heard(THREE, 1, state, 0, ANSWER), (with_items(state, deficit=1), ()))
        # The last one, while tasks are left.
        state = with_items(state, deficit=1)
        self.assertEqual(heard(THREE, 1, state, 0, ANSWER), (with_items(state, deficit=0), ()))
        # Without tasks it ends.
        state = with_items(state, bag=(), share=())
        self.assertEqual(heard(THREE, 1, state, 0, ANSWER), (with_items(state, deficit=0, parent=None), ((2, ANSWER),)))
        state = with_items(state, deficit=2)
        self.assertEqual(heard(THREE, 1, state, 0, ANSWER), (with_items(state, deficit=1), ()))
        # By form it may have a share still.
        state = with_items(state, share=(4,))
        behind = with_items(state, deficit=1, share=())
        self.assertEqual(heard(THREE, 1, state, 0, ANSWER), (behind, ((0, ("share", (4,))),)))
        state = with_items(state, deficit=1)
        behind = with_items(state, deficit=0, parent=None, share=())
        self.assertEqual(heard(THREE, 1, state, 0, ANSWER), (behind, ((2, ANSWER), (0, ("share", (4,))))))

    def test_an_answer_for_house_0(self):
        state = ((), 0, 1, 3, 4, False, None, (2,), False)
        self.assertEqual(heard(THREE, 0, state, 1, ANSWER), (with_items(state, deficit=0, parent=None), ()))
        state = with_items(state, bag=((0, 0),))
        self.assertEqual(heard(THREE, 0, state, 1, ANSWER), (with_items(state, deficit=0), ()))

    def test_a_sign_a_share_a_mark(self):
        for house in (0, 2):
            state = (((0, 0),), None, 0, 0, 0, False, None, (), False)
            self.assertEqual(heard(THREE, house, state, 1, ("sign", 4, 5, 1)), (with_items(state, sign=(4, 5, 1)), ()))
            self.assertEqual(heard(THREE, house, state, 1, ("mark", 7)), (state, ()))
        self.assertEqual(heard(THREE, 0, FIRST, 1, ("mark", 7)), (FIRST, ()))
        state = with_items(FIRST, share=(2,))
        self.assertEqual(heard(THREE, 0, state, 2, ("share", (2, 3))), (with_items(state, share=(1, 3)), ()))
        self.assertEqual(heard(THREE, 0, with_items(FIRST, share=()), 2, ("share", (0,))), (FIRST, ()))

    def test_words_that_are_none_then(self):
        wrong = [
            (0, FIRST, ANSWER), (1, OTHER, ANSWER), (0, FIRST, ("sign", 0, 0, 0)),
            (1, with_items(OTHER, sign=(0, 0, 0)), ("sign", 3, 3, 0)), (1, OTHER, ("share", (1,))),
            (2, OTHER, ("share", (0,))), (0, FIRST, ("share", (1,))), (0, FIRST, ("share", (0,))),
            (0, FIRST, ("task", 0, 0, (5,))), (1, with_items(OTHER, share=(1, 2)), ("task", 0, 0, (1,))),
            (1, with_items(OTHER, share=(0,)), ("task", 0, 0, (BIG,))),
            (0, with_items(FIRST, share=(1, 2)), ("share", (2, 3))),
        ]
        for house, state, word in wrong:
            self.assertIs(is_state(THREE, house, state), True)
            self.assertIs(is_word(THREE, word), True)
            with self.assertRaises(NoWord):
                heard(THREE, house, state, 0, word)

    def test_errors_in_order(self):
        for thing in odd_numbers() + [3]:
            with self.assertRaises(NoHouse):
                heard(THREE, thing, OTHER, 0, ANSWER)
            with self.assertRaises(NoHouse):
                heard(THREE, 0, OTHER, thing, ANSWER)
            with self.assertRaises(NoHouse):
                heard(THREE, 1, OTHER, thing, thing)
        for thing in odd_things() + [(), ("share", ()), ("task", 0, 0, ()), ("mark", 1000), ("answer", 1)]:
            with self.assertRaises(NoWord):
                heard(THREE, 1, with_items(OTHER, deficit=1), 0, thing)


class PassedTest(unittest.TestCase):
    def test_another_house(self):
        state = ((), 2, 1, 3, 5, False, (10, 20, 0), (), False)
        behind = with_items(state, sign=None)
        self.assertEqual(passed(THREE, 2, state), (behind, ((1, ("sign", 13, 25, 0)),)))
        self.assertEqual(passed(THREE, 1, state), (behind, ((0, ("sign", 13, 25, 0)),)))
        black = with_items(state, black=True)
        self.assertEqual(passed(THREE, 1, black), (behind, ((0, ("sign", 13, 25, 1)),)))
        self.assertIs(passed(THREE, 1, black)[0][5], False)
        for state in (with_items(state, sign=(10, 20, 1)), with_items(black, sign=(10, 20, 1))):
            self.assertEqual(repr(passed(THREE, 1, state)), repr((behind, ((0, ("sign", 13, 25, 1)),))))

    def test_another_house_never_says(self):
        for house in (1, 2):
            state = with_items(OTHER, sign=(5, 3, 0), sent=1, heard=3)
            out = ((house - 1, ("sign", 6, 6, 0)),)
            self.assertEqual(passed(THREE, house, state), (with_items(state, sign=None), out))

    def test_house_0_looks(self):
        state = ((), None, 0, 3, 5, False, (10, 8, 0), (0,), False)
        self.assertEqual(passed(THREE, 0, state), (with_items(state, said=True), ()))
        again = ((2, ("sign", 0, 0, 0)),)
        for other in (
            with_items(state, sign=(10, 9, 0)), with_items(state, sign=(9, 8, 0)), with_items(state, sent=4),
            with_items(state, heard=4), with_items(state, black=True), with_items(state, sign=(10, 8, 1)),
            with_items(state, sign=(5, 3, 0), sent=1), with_items(state, sign=(10, 8, 1), black=True),
        ):
            behind = with_items(other, sign=None, black=False)
            self.assertEqual(repr(passed(THREE, 0, other)), repr((behind, again)))
        # Its own tree and coin do not matter.
        other = with_items(state, parent=0, deficit=4, share=(3,))
        self.assertEqual(passed(THREE, 0, other), (with_items(other, said=True), ()))

    def test_one_house(self):
        state = ((), None, 0, 3, 3, True, (0, 0, 0), (0,), False)
        behind = with_items(state, sign=None, black=False)
        self.assertEqual(passed(FOUR_EACH, 0, state), (behind, ((0, ("sign", 0, 0, 0)),)))

    def test_errors(self):
        for thing in odd_numbers() + [3]:
            with self.assertRaises(NoHouse):
                passed(THREE, thing, with_items(OTHER, sign=(0, 0, 0)))
        state = ((), None, 0, 0, 0, False, (0, 0, 0), (0,), False)
        for house in (0, 1):
            passed(THREE, house, state)
            for other in (with_items(state, sign=None), with_items(state, bag=((0, 0),))):
                with self.assertRaises(NoSign):
                    passed(THREE, house, other)
        with self.assertRaises(NoSign):
            passed(THREE, 0, with_items(state, said=True))


class SaysTest(unittest.TestCase):
    def test_each_by_itself(self):
        state = (((0, 0),), 0, 0, 0, 0, False, None, (1,), False)
        for other, told in [
            (state, (False, False, False)), (FIRST, (True, True, True)), (with_items(state, parent=None), (True, False, False)),
            (with_items(state, said=True), (False, True, False)), (with_items(state, bag=(), share=(0,)), (False, False, True)),
            (with_items(state, bag=()), (False, False, False)), (with_items(state, share=(0,)), (False, False, False)),
            (with_items(state, bag=(), share=()), (False, False, False)), (with_items(FIRST, deficit=3), (True, True, True)),
        ]:
            self.assertEqual(repr(says(THREE, other)), repr(told))


class ArgumentsTest(unittest.TestCase):
    def test_nothing_is_changed_and_nothing_deep_fails(self):
        deep = nested(40, 0, lambda inner: (inner,))
        self.assertIs(is_word(THREE, deep), False)
        self.assertIs(is_state(THREE, 0, (deep,) * 9), False)
        self.assertIs(is_state(THREE, 0, with_items(FIRST, bag=(deep,))), False)
        self.assertIs(is_word(THREE, ("share", deep)), False)


if __name__ == "__main__":
    unittest.main()
