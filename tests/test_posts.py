"""Posts and their pictures: points 3.4 and 6.1."""

import random
import unittest

from knownquiet.errors import NoDeed, NoHouse, NoNumber, NoPast
from knownquiet.posts import Post, post_of
from knownquiet.rows import row_of, sealed, unsealed
from knownquiet.states import begun, done, gifted, passed
from knownquiet.works import Works
from tests.odd import nested, odd_numbers, odd_things
from tests.plain import PlainPost

WORKS = Works(2, (((1, 0),),))
THREE = Works(3, (((1, 1), (0, 2), (1, 0)), ((2, 2),), ()))
ONE = Works(1, (((0, 0), (0, 0)),))
BUSY = Works(4, (((1, 0), (3, 1)), ((0, 0), (2, 1))))
ANSWER = ("answer",)
EMPTY = (0, ())
BIG = 99999999999999999999


def letter(sender, to, taken, *items):
    return sealed(("letter", sender, to, taken, tuple(items)))


class BegunTest(unittest.TestCase):
    def test_begun(self):
        for works in (WORKS, THREE, ONE):
            for house in range(works.many):
                post = Post(works, house)
                self.assertEqual(post.state(), begun(works, house))
                self.assertEqual(post.past(), (begun(works, house), (EMPTY,) * works.many, (EMPTY,) * works.many, ()))
                for to in range(works.many):
                    self.assertEqual(post.letter(to), letter(house, to, 0))

    def test_no_house(self):
        post = Post(THREE, 1)
        for thing in odd_numbers() + [3, BIG]:
            with self.assertRaises(NoHouse):
                Post(THREE, thing)
            with self.assertRaises(NoHouse):
                post.letter(thing)
            with self.assertRaises(NoHouse):
                post_of(THREE, thing, post.past())
            with self.assertRaises(NoHouse):
                post_of(THREE, thing, thing)


class DeedTest(unittest.TestCase):
    def test_give_do_pass(self):
        post = Post(WORKS, 0)
        self.assertIsNone(post.deed(("give", (0, 1))))
        self.assertEqual(post.state(), gifted(WORKS, begun(WORKS, 0), (0, 1))[0])
        self.assertIsNone(post.deed(("do",)))
        state, out = done(WORKS, 0, gifted(WORKS, begun(WORKS, 0), (0, 1))[0])
        self.assertEqual(post.past(), (state, (EMPTY, (0, (out[0][1],))), (EMPTY, EMPTY), ()))
        self.assertIsNone(post.deed(("pass",)))
        state, out = passed(WORKS, 0, state)
        self.assertEqual(post.state(), state)
        self.assertEqual(post.letter(1), letter(0, 1, 0, (0, ("task", 0, 0, (1,))), (1, ("sign", 0, 0, 0))))
        self.assertEqual(post.letter(0), letter(0, 0, 0))

    def test_what_cannot_be_done(self):
        first, other = Post(THREE, 0), Post(THREE, 1)
        first.deed(("picture", 4))
        other.deed(("picture", 4))
        for post, deed in [
            (first, ("do",)), (first, ("pass",)), (first, ("picture", 4)), (other, ("do",)), (other, ("pass",)),
            (other, ("picture", 4)), (other, ("give", (0, 0))),
        ]:
            past = post.past()
            with self.assertRaises(NoDeed):
                post.deed(deed)
            self.assertEqual(post.past(), past)

    def test_no_share_to_halve(self):
        state = (((1, 1),), 0, 0, 0, 0, False, None, (), False)
        post = post_of(THREE, 1, (state, (EMPTY,) * 3, (EMPTY,) * 3, ()))
        with self.assertRaises(NoDeed):
            post.deed(("do",))
        self.assertEqual(post.past(), (state, (EMPTY,) * 3, (EMPTY,) * 3, ()))

    def test_too_many_tasks(self):
        works = Works(1, (((0, 0),) * 4,))
        post = Post(works, 0)
        post.deed(("give", (0, 4)))
        with self.assertRaises(NoDeed):
            post.deed(("give", (0, 5)))

    def test_what_is_no_deed(self):
        post = Post(THREE, 0)
        post.deed(("give", (1, 1)))
        past = post.past()
        wrong = [
            (), "do", ["do"], ("do", 0), ("do", ()), ("Do",), ("give",), ("give", 1, 1), ("give", ()), ("give", (3, 0)),
            ("give", (0, 13)), ("give", [0, 0]), ("give", (0, 0), 0), ("pass", 0), ("picture",), ("picture", -1),
            ("picture", 1000), ("picture", True), ("picture", None), ("picture", "1"), ("picture", 1, 1), ("hear",),
            ("hear", None, None), ("hear", (0,), 0), ["hear", None], ("heard", None), ("letter",), ("keep",), (None,), ((),), (b"do",),
            (("do",),), ("do\n",), ("give", (0, 0, 0)),
        ]
        for thing in wrong + odd_things() + [("give", thing) for thing in odd_things() if thing != (0, 0)]:
            with self.assertRaises(NoDeed, msg=repr(thing)[:60]):
                post.deed(thing)
        for thing in odd_numbers():
            with self.assertRaises(NoDeed):
                post.deed(("picture", thing))
            with self.assertRaises(NoDeed):
                post.deed((thing,))
        self.assertEqual(post.past(), past)


class HearTest(unittest.TestCase):
    def setUp(self):
        self.first, self.other = Post(WORKS, 0), Post(WORKS, 1)
        self.first.deed(("give", (0, 1)))
        self.first.deed(("do",))

    def none(self, post, row):
        past = post.past()
        self.assertEqual(post.deed(("hear", row)), "none")
        self.assertEqual(post.past(), past)

    def test_new_and_old(self):
        row = self.first.letter(1)
        self.assertEqual(self.other.deed(("hear", row)), "new")
        state = (((0, 0),), 0, 0, 0, 1, True, None, (1,), False)
        self.assertEqual(self.other.past(), (state, (EMPTY, EMPTY), ((1, ()), EMPTY), ()))
        self.assertEqual(self.other.deed(("hear", row)), "old")
        self.assertEqual(self.other.past(), (state, (EMPTY, EMPTY), ((1, ()), EMPTY), ()))
        self.assertEqual(self.other.deed(("hear", letter(0, 1, 0))), "old")
        # What was told to be taken alone is new, too.
        self.assertEqual(self.first.deed(("hear", self.other.letter(0))), "new")
        self.assertEqual(self.first.past()[1][1], (1, ()))
        self.assertEqual(self.first.deed(("hear", letter(1, 0, 0))), "old")
        self.assertEqual(self.first.past()[1][1], (1, ()))

    def test_what_is_held(self):
        task = ("task", 0, 0, (1,))
        self.assertEqual(self.other.deed(("hear", letter(0, 1, 0, (2, ANSWER), (1, ("sign", 0, 0, 0))))), "new")
        self.assertEqual(self.other.state(), begun(WORKS, 1))
        self.assertEqual(self.other.past()[2], ((0, ((1, ("sign", 0, 0, 0)), (2, ANSWER))), EMPTY))
        self.assertEqual(self.other.deed(("hear", letter(0, 1, 0, (1, ("sign", 7, 7, 1))))), "old")
        # An answer that nothing waits for is no word then: nothing of the letter is heard.
        self.none(self.other, letter(0, 1, 0, (0, task)))
        self.assertEqual(self.other.deed(("hear", letter(0, 1, 0, (1000, task), (BIG % 2 ** 32, task)))), "old")
        self.assertEqual(self.other.deed(("hear", letter(0, 1, 0, (999, task)))), "new")

    def test_a_deficit_for_the_answer(self):
        other = post_of(WORKS, 1, (
            (((0, 0),), 0, 1, 1, 1, True, None, (1,), False), (EMPTY, EMPTY), ((0, ((1, ANSWER),)), EMPTY), ()
        ))
        self.assertEqual(other.deed(("hear", letter(0, 1, 0, (0, ("sign", 0, 0, 0))))), "new")
        state = (((0, 0),), 0, 0, 1, 1, True, (0, 0, 0), (1,), False)
        self.assertEqual(other.past(), (state, (EMPTY, EMPTY), ((2, ()), EMPTY), ()))

    def test_letters_that_are_none(self):
        task = ("task", 0, 0, (1,))
        good = ("letter", 0, 1, 0, ((0, task),))
        self.none(self.other, (good and row_of(good)))
        wrong = [
            good[:4], good + (0,), ("Letter",) + good[1:], (None,) + good[1:], ("letter", 2, 1, 0, ()),
            ("letter", True, 1, 0, ()), ("letter", -1, 1, 0, ()), ("letter", None, 1, 0, ()), ("letter", 0, 0, 0, ()),
            ("letter", 0, 2, 0, ()), ("letter", 0, True, 0, ()), ("letter", 0, "1", 0, ()), ("letter", 0, 1, 1, ()),
            ("letter", 0, 1, -1, ()), ("letter", 0, 1, False, ()), ("letter", 0, 1, None, ()), ("letter", 0, 1, BIG, ()),
            ("letter", 1, 1, 1, ()), ("letter", 0, 1, 0, None), ("letter", 0, 1, 0, 0), ("letter", 0, 1, 0, (0, task)),
            ("letter", 0, 1, 0, ((0, task), None)), ("letter", 0, 1, 0, ((0,),)), ("letter", 0, 1, 0, ((0, task, 0),)),
            ("letter", 0, 1, 0, ((-1, task),)), ("letter", 0, 1, 0, ((True, task),)), ("letter", 0, 1, 0, ((None, task),)),
            ("letter", 0, 1, 0, ((0, ()),)), ("letter", 0, 1, 0, ((0, ("task", 1, 0, (1,))),)),
            ("letter", 0, 1, 0, ((0, ("task", 0, 0, ())),)), ("letter", 0, 1, 0, ((5, ("mark", 1000)),)),
            ("letter", 0, 1, 0, ((0, task),) * 21), None, True, 0, "letter", (), ("letter",), (good,),
        ]
        for parcel in wrong:
            self.none(self.other, sealed(parcel))
        row = sealed(good)
        for at in range(len(row)):
            self.none(self.other, row[:at] + ((row[at] + 1) % 256,) + row[at + 1:])
        for thing in [(), (0,), row[:-1], row + (0,), row[1:], (7,) * 30]:
            self.none(self.other, thing)
        self.assertEqual(self.other.deed(("hear", row)), "new")

    def test_what_is_no_row(self):
        row = self.first.letter(1)
        near = [
            None, 0, "row", [0], [1, 2], (256,), (-1,), (True,), "ab", (), ((),), ([1],), {}, {0: ()}, list(row), (row,),
            row[:-1] + (None,), row[:-1] + (str(row[-1]),), (row[0] + 256,) + row[1:], (row[0] - 256,) + row[1:],
        ]
        for thing in near + odd_things() + odd_numbers():
            self.none(self.other, thing)
            self.none(self.first, thing)
        self.assertEqual(self.other.deed(("hear", row)), "new")

    def test_for_another_house(self):
        for sender in range(3):
            for to in range(3):
                post = Post(THREE, 1)
                told = post.deed(("hear", letter(sender, to, 0, (0, ("sign", 1, 1, 0)))))
                self.assertEqual(told, "new" if to == 1 else "none")

    def test_20_items(self):
        items = [(number, ("mark", number)) for number in range(21)]
        self.assertEqual(self.other.deed(("hear", letter(0, 1, 0, *items[:20]))), "new")
        self.none(self.other, letter(0, 1, 0, *items))

    def test_more_taken_than_was_put(self):
        # House 0 has put one word into its link to 1, none into that to itself.
        self.none(self.first, letter(1, 0, 2))
        self.none(self.first, letter(0, 0, 1))
        self.none(self.first, letter(1, 0, 2, (0, ANSWER)))
        self.assertEqual(self.first.deed(("hear", letter(1, 0, 1))), "new")
        self.assertEqual(self.first.deed(("hear", letter(1, 0, 1))), "old")

    def test_words_that_are_none_then(self):
        sign = (0, ("sign", 1, 1, 1))
        for word in (ANSWER, ("share", (1,)), ("sign", 2, 2, 0)):
            self.none(self.other, letter(0, 1, 0, sign, (1, word)))
            self.none(self.other, letter(0, 1, 0, sign, (1, ("mark", 3)), (2, word)))
            self.none(self.other, letter(0, 1, 0, (1, word), sign))
        self.none(self.other, letter(0, 1, 0, sign, (1, ("task", 0, 0, (0,))), (2, ("task", 0, 0, (9,)))))
        # More than the whole, though all else of the letter could be heard.
        self.none(self.first, letter(1, 0, 1, (0, ANSWER), (1, ("share", (1, 2)))))
        self.assertEqual(self.first.deed(("hear", letter(1, 0, 1, (0, ANSWER), (1, ("share", (2,)))))), "new")
        self.assertEqual(self.first.state(), ((), None, 0, 1, 0, False, (0, 0, 0), (1, 2), False))

    def test_words_to_itself(self):
        post = Post(ONE, 0)
        post.deed(("give", (0, 1)))
        post.deed(("do",))
        row = post.letter(0)
        self.assertEqual(row, letter(0, 0, 0, (0, ("task", 0, 0, (1,))), (1, ("task", 0, 0, (2,)))))
        self.assertEqual(post.deed(("hear", row)), "new")
        # Awake by its gift still: both are answered, with letters to itself.
        self.assertEqual(post.state(), (((0, 0), (0, 0)), 0, 2, 2, 2, True, (0, 0, 0), (0,), False))
        self.assertEqual(post.letter(0), letter(0, 0, 2, *[
            (0, ("task", 0, 0, (1,))), (1, ("task", 0, 0, (2,))), (2, ANSWER), (3, ANSWER),
        ]))
        self.assertEqual(post.deed(("hear", post.letter(0))), "new")
        self.assertEqual(post.past()[1:3], (((2, (ANSWER, ANSWER)),), ((4, ()),)))
        post.deed(("do",))
        post.deed(("do",))
        self.assertEqual(post.state(), ((), None, 0, 2, 2, True, (0, 0, 0), (0,), False))


class LetterTest(unittest.TestCase):
    def test_first_20(self):
        post = Post(WORKS, 1)
        for number in range(30):
            post.deed(("picture", number))
        items = [(number, ("mark", number)) for number in range(30)]
        self.assertEqual(post.letter(0), letter(1, 0, 0, *items[:20]))
        self.assertEqual(post.deed(("hear", letter(0, 1, 5))), "new")
        self.assertEqual(post.letter(0), letter(1, 0, 0, *items[5:25]))
        self.assertEqual(post.deed(("hear", letter(0, 1, 12, (0, ("mark", 77))))), "new")
        self.assertEqual(post.letter(0), letter(1, 0, 1, *(items[12:] + [(30, ("mark", 77))])))
        self.assertEqual(post.letter(1), letter(1, 1, 0, *items[:20]))
        self.assertEqual(post.past()[1][0][0], 12)


class PictureTest(unittest.TestCase):
    def test_begun_by_a_deed(self):
        post = Post(THREE, 1)
        self.assertIsNone(post.part_of(7))
        self.assertIsNone(post.deed(("picture", 7)))
        self.assertEqual(post.part_of(7), (begun(THREE, 1), (), False))
        marks = (0, (("mark", 7),))
        self.assertEqual(post.past(), (begun(THREE, 1), (marks,) * 3, (EMPTY,) * 3, ((7, begun(THREE, 1), (), (0, 1, 2)),)))
        for number in (0, 999):
            post.deed(("picture", number))
        self.assertEqual([picture[0] for picture in post.past()[3]], [0, 7, 999])
        self.assertEqual(post.past()[1][2], (0, (("mark", 7), ("mark", 0), ("mark", 999))))

    def test_begun_by_a_mark(self):
        post = Post(THREE, 1)
        self.assertEqual(post.deed(("hear", letter(2, 1, 0, (0, ("mark", 7))))), "new")
        self.assertEqual(post.past()[3], ((7, begun(THREE, 1), (), (0, 1)),))
        self.assertEqual(post.past()[1], ((0, (("mark", 7),)),) * 3)
        self.assertEqual(post.part_of(7), (begun(THREE, 1), (), False))
        # A way that is closed already.
        past = post.past()
        self.assertEqual(post.deed(("hear", letter(2, 1, 0, (1, ("mark", 7))))), "none")
        self.assertEqual(post.deed(("hear", letter(2, 1, 0, (1, ("mark", 8)), (2, ("mark", 7))))), "none")
        self.assertEqual(post.past(), past)
        self.assertEqual(post.deed(("hear", letter(0, 1, 0, (0, ("mark", 7))))), "new")
        self.assertEqual(post.past()[3][0][3], (1,))
        self.assertEqual(post.deed(("hear", post.letter(1))), "new")
        self.assertEqual(post.part_of(7), (begun(THREE, 1), (), True))
        with self.assertRaises(NoDeed):
            post.deed(("picture", 7))

    def test_what_is_kept(self):
        post = Post(THREE, 0)
        post.deed(("give", (1, 1)))
        post.deed(("do",))
        post.deed(("pass",))
        post.deed(("picture", 5))
        state = post.state()
        self.assertEqual(post.deed(("hear", letter(2, 0, 0, (0, ("sign", 1, 1, 1)), (1, ("mark", 6))))), "new")
        self.assertEqual(post.part_of(5), (state, ((2, (("sign", 1, 1, 1),)),), False))
        self.assertEqual(post.part_of(6), (post.state(), (), False))
        self.assertEqual(post.past()[3][1], (6, post.state(), (), (0, 1)))
        post.deed(("pass",))
        words = [(0, ("sign", 2, 2, 0)), (1, ("mark", 5))]
        self.assertEqual(post.deed(("hear", letter(1, 0, 0, *words))), "new")
        post.deed(("pass",))
        more = [(2, ("sign", 3, 3, 0)), (3, ("mark", 6))]
        self.assertEqual(post.deed(("hear", letter(1, 0, 0, *more))), "new")
        # Kept is what came ahead of the mark; of 6 both, for its mark came behind them.
        first = (1, (("sign", 2, 2, 0),))
        self.assertEqual(post.part_of(5), (state, (first, (2, (("sign", 1, 1, 1),))), False))
        self.assertEqual(post.part_of(6)[1], ((1, (("sign", 2, 2, 0), ("sign", 3, 3, 0))),))
        self.assertEqual(post.past()[3][0][3], (0, 2))
        self.assertEqual(post.past()[3][1][3], (0,))

    def test_no_number(self):
        post = Post(THREE, 0)
        post.deed(("picture", 1))
        self.assertIsNone(post.part_of(0))
        self.assertIsNone(post.part_of(999))
        for thing in odd_numbers() + [-1, 1000, BIG]:
            with self.assertRaises(NoNumber):
                post.part_of(thing)


class PastTest(unittest.TestCase):
    def test_forms_that_no_run_brings(self):
        state = (((0, 12),), 1, BIG, 3, 4, True, (1, 2, 1), (0,), False)
        words = (ANSWER, ("mark", 4), ("task", 1, 3, (2, 3)), ("sign", 1, 1, 0), ("share", (0,)))
        held = tuple((number + 9, word) for number, word in enumerate(words))
        kept = ((0, (ANSWER, ANSWER)), (2, (("share", (1,)),)))
        for past in [
            (state, ((2 ** 32 - 1, words), EMPTY, EMPTY), ((8, held), EMPTY, EMPTY), ()),
            (state, (EMPTY,) * 3, (EMPTY,) * 3, ((0, state, kept, ()), (999, state, (), (0, 1, 2)), )),
            (state, (EMPTY,) * 3, (EMPTY,) * 3, ((5, state, (), (1,)), (6, state, kept, (0, 2)))),
        ]:
            post = post_of(THREE, 2, past)
            self.assertIsInstance(post, Post)
            self.assertEqual(repr(post.past()), repr(past))
            self.assertEqual(post.state(), state)
        post = post_of(THREE, 2, past)
        self.assertEqual(post.part_of(5), (state, (), False))
        self.assertEqual(post.part_of(6), (state, kept, False))

    def test_goes_on(self):
        past = (begun(THREE, 1), ((4, (("mark", 0), ("mark", 1))), EMPTY, EMPTY), (EMPTY, (3, ()), EMPTY), ())
        post = post_of(THREE, 1, past)
        self.assertEqual(post.letter(0), letter(1, 0, 0, (4, ("mark", 0)), (5, ("mark", 1))))
        self.assertEqual(post.deed(("hear", letter(1, 1, 0, (2, ANSWER)))), "old")
        self.assertEqual(post.deed(("hear", letter(0, 1, 7))), "none")
        self.assertEqual(post.deed(("hear", letter(0, 1, 6))), "new")

    def test_each_part_otherwise(self):
        state = begun(THREE, 1)
        good = (state, (EMPTY,) * 3, (EMPTY,) * 3, ((5, state, ((0, (ANSWER,)),), (1, 2)), (6, state, (), ())))
        post_of(THREE, 1, good)
        links = [
            (), (EMPTY,) * 2, (EMPTY,) * 4, [EMPTY] * 3, (EMPTY, EMPTY, None), (EMPTY, [0, ()], EMPTY), (EMPTY, (0,), EMPTY),
            ((-1, ()), EMPTY, EMPTY), ((2 ** 32, ()), EMPTY, EMPTY), (EMPTY, EMPTY, (0, [])), ((True, ()), EMPTY, EMPTY),
        ]
        outs = links + [(EMPTY, (0, (told,)), EMPTY) for told in [(), (1,), ("mark", 1000), ("task", 3, 0, (1,)), None, (0, ANSWER)]]
        ins = links + [(EMPTY, (0, (told,)), EMPTY) for told in [
            (1, ()), (0, ANSWER), (1000, ANSWER), (1, ("share", ())), (1, ("answers",)), ANSWER, [1, ANSWER], (1, ANSWER, 0),
        ]] + [(EMPTY, (0, ((2, ANSWER), (1, ANSWER))), EMPTY), (EMPTY, (0, ((2, ANSWER), (2, ANSWER))), EMPTY)]
        pictures = [
            [], [(5, state, (), ())], (5, state, (), ()), ((5, state, ()),), ((5, state, (), (), ()),), ([5, state, (), ()],),
            ((-1, state, (), ()),), ((1000, state, (), ()),), ((True, state, (), ()),), (("5", state, (), ()),),
            ((5, begun(THREE, 0), (), ()),), ((5, None, (), ()),), ((5, state, [], ()),), ((5, state, ((0, ()),), ()),),
            ((5, state, ((0, (ANSWER,), 0),), ()),), ((5, state, ([0, (ANSWER,)],), ()),), ((5, state, ((0,),), ()),),
            ((5, state, ((0, [ANSWER]),), ()),), ((5, state, ((3, (ANSWER,)),), ()),), ((5, state, ((0, (("mark", 2),)),), ()),),
            ((5, state, ((0, ("answer",)),), ()),), ((5, state, ((0, (ANSWER,)), (0, (ANSWER,))), ()),),
            ((5, state, ((1, (ANSWER,)), (0, (ANSWER,))), ()),), ((5, state, (), (0, 3)),), ((5, state, (), (1, 0)),),
            ((5, state, (), (1, 1)),), ((5, state, (), [1]),), ((5, state, (), (True,)),), ((5, state, (), None),),
            ((5, state, (), ()), (5, state, (), ())), ((6, state, (), ()), (5, state, (), ())),
            ((5, state, (), ()), (5, state, (), (1,))),
        ]
        wrong = [
            good[:3], good + ((),), list(good), [good], {}, None, (), (good,), (begun(THREE, 0),) + good[1:],
            (("a",) + state[1:],) + good[1:], (None,) + good[1:],
        ]
        wrong += [(state, thing, good[2], ()) for thing in outs] + [(state, good[1], thing, ()) for thing in ins]
        wrong += [good[:3] + (thing,) for thing in pictures]
        for at in range(4):
            wrong += [good[:at] + (thing,) + good[at + 1:] for thing in odd_things()]
        for thing in wrong + odd_things():
            with self.assertRaises(NoPast, msg=repr(thing)[:100]):
                post_of(THREE, 1, thing)

    def test_another_houses_past(self):
        with self.assertRaises(NoPast):
            post_of(THREE, 1, Post(THREE, 0).past())
        with self.assertRaises(NoPast):
            post_of(THREE, 1, Post(WORKS, 1).past())
        deep = nested(40, (), lambda inner: (inner,))
        with self.assertRaises(NoPast):
            post_of(THREE, 1, (begun(THREE, 1), ((0, (deep,)), EMPTY, EMPTY), (EMPTY,) * 3, ()))


class CopyTest(unittest.TestCase):
    def test_copies_go_on_apart(self):
        post = Post(BUSY, 0)
        post.deed(("give", (0, 3)))
        post.deed(("do",))
        post.deed(("picture", 2))
        past = post.past()
        other = post.copy()
        self.assertIsInstance(other, Post)
        self.assertEqual(other.past(), past)
        other.deed(("give", (1, 1)))
        other.deed(("picture", 3))
        other.deed(("hear", letter(1, 0, 1, (0, ("share", (3,))), (1, ("mark", 2)), (3, ANSWER))))
        self.assertNotEqual(other.past(), past)
        self.assertEqual(post.past(), past)
        late = other.past()
        post.deed(("give", (1, 4)))
        post.deed(("do",))
        post.deed(("hear", letter(2, 0, 0, (0, ("mark", 9)))))
        self.assertEqual(other.past(), late)
        self.assertEqual(post_of(BUSY, 0, past).past(), past)


class RunTest(unittest.TestCase):
    """Posts that exchange letters late, doubled, lost, in any order, beside an account of their own."""

    def run_once(self, seed, works, steps):
        chance = random.Random(seed)
        many = works.many
        posts = [Post(works, house) for house in range(many)]
        plain = [PlainPost(works, house) for house in range(many)]
        bag = []
        told = {"new": 0, "old": 0, "none": 0}
        for step in range(steps):
            house = chance.randrange(many)
            what = chance.randrange(12)
            if what < 3:
                self.deed(posts, plain, house, chance)
            elif what < 7:
                to = chance.randrange(many)
                row = posts[house].letter(to)
                mine = plain[house]
                known = mine.known[to]
                items = list(enumerate(mine.puts[to]))[known:known + 20]
                self.assertEqual(row, letter(house, to, len(mine.took[to]), *items))
                bag.append((to, row))
            elif bag:
                at = chance.randrange(len(bag)) if chance.randrange(2) else len(bag) - 1
                to, row = bag[at]
                self.hear(posts[to], plain[to], row, told)
                if chance.randrange(3):
                    bag.pop(at)
                if len(bag) > 30:
                    bag = chance.sample(bag, 8)
            if chance.randrange(20) == 0:
                self.twist(chance, posts, plain, told)
            if chance.randrange(10) == 0:
                posts[house] = posts[house].copy() if chance.randrange(2) else post_of(works, house, posts[house].past())
            self.assertEqual([post.past() for post in posts], [mine.past() for mine in plain])
            self.links_hold(plain)
        return posts, told

    def deed(self, posts, plain, house, chance):
        give, picture = ("give", (0, chance.randint(0, 3))), ("picture", chance.randrange(6))
        deed = chance.choice([("do",), ("do",), ("do",), ("pass",), give, picture])
        mine = plain[house]
        if not mine.can(deed):
            with self.assertRaises(NoDeed):
                posts[house].deed(deed)
            return
        self.assertIsNone(posts[house].deed(deed))
        mine.deed(deed)

    def hear(self, post, mine, row, told):
        _, sender, to, taken, items = unsealed(row)[0]
        word = post.deed(("hear", row))
        told[word] += 1
        other = mine.hear((sender, taken, items)) if taken <= len(mine.puts[sender]) else None
        if other is None:
            self.assertEqual(word, "none")
            return
        self.assertEqual(word, "old" if other.past() == mine.past() else "new")
        mine.__dict__.update(other.__dict__)

    def twist(self, chance, posts, plain, told):
        """Letters that no house wrote, heard by twins of posts."""
        house = chance.randrange(len(posts))
        sender = chance.randrange(len(posts))
        post, mine = posts[house].copy(), plain[house].twin()
        due = len(mine.took[sender])
        words = [ANSWER, ("sign", 1, 1, 0), ("share", (1,)), ("task", 0, 0, (2,)), ("mark", chance.randrange(6)), ("share", (9,))]
        items = [(max(0, due + chance.randint(-2, 3)), chance.choice(words)) for _ in range(chance.randint(0, 6))]
        taken = max(0, len(mine.puts[sender]) + chance.randint(-3, 1))
        self.hear(post, mine, letter(sender, house, taken, *items), told)
        self.assertEqual(post.past(), mine.past())

    def links_hold(self, plain):
        for one in plain:
            for other in plain:
                took = other.took[one.number]
                self.assertEqual(took, one.puts[other.number][:len(took)])
                self.assertLessEqual(one.known[other.number], len(took))

    def test_runs(self):
        found = {"new": 0, "old": 0, "none": 0}
        closed = 0
        for seed in range(12):
            works = (WORKS, THREE, ONE, BUSY)[seed % 4]
            posts, told = self.run_once(seed, works, 260)
            closed += len([1 for post in posts for picture in post.past()[3] if picture[3] == ()])
            found = {word: found[word] + told[word] for word in found}
        self.assertGreater(min(found.values()), 20)
        self.assertGreater(closed, 10)

    def test_all_comes_in_the_end(self):
        posts = [Post(BUSY, house) for house in range(4)]
        posts[0].deed(("give", (0, 4)))
        for _ in range(200):
            for post in posts:
                while post.state()[0]:
                    post.deed(("do",))
                for other in posts:
                    other.deed(("hear", post.letter(other.number)))
        for post in posts:
            state = post.state()
            self.assertEqual(state[:3], ((), None, 0))
            self.assertEqual(state[7], (0,) if post.number == 0 else ())
            self.assertTrue(all(words == () for _, words in post.past()[1]))


if __name__ == "__main__":
    unittest.main()
