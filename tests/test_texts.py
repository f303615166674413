"""Promise [11.1]: works and records as texts."""

import itertools
import random
import unittest

from knownquiet.errors import BadRecord, BadText, BadWorks, NoGiven
from knownquiet.records import Record
from knownquiet.texts import read_record, read_works, record_text, works_text
from knownquiet.works import Works
from tests.odd import odd_things
from tests.told import EACH, THREE, WORKS, some_events, some_given

RULES = "houses 2\nkind 1:0\n"
GOOD = RULES + "kind\nkind 0:1 1:2 0:0\ngiven 0 3\ngiven 2 12\ndo 0\nhear 1 0\nsay 1 tree\nsay 0 ring\nsay 0 coin\n"
# Numbers as they must not stand.
NO_NUMBERS = (
    "", "00", "01", "-1", "+1", "1.0", "1_0", "0x1", "a", "1a", "1000000000", "9" * 20, "1 ", " 1", "1\t", "~", ":", "1:", "tree",
)


def line_of(text, read=read_record):
    """The line that BadText tells, or what is read."""
    try:
        return read(text)
    except BadText as error:
        return error.line


def any_works(chance):
    many, kinds = chance.randint(1, 6), chance.randint(1, 6)
    pair = lambda: (chance.randrange(many), chance.randrange(kinds))
    return Works(many, tuple(tuple(pair() for _ in range(chance.randint(0, 4))) for _ in range(kinds)))


class WorksTest(unittest.TestCase):
    def test_text(self):
        self.assertEqual(works_text(WORKS), RULES)
        self.assertEqual(works_text(Works(1, ((),))), "houses 1\nkind\n")
        self.assertEqual(works_text(THREE), "houses 3\nkind 1:1 0:2 1:0\nkind 2:2\nkind\n")
        self.assertEqual(works_text(Works(6, (((5, 5),) * 4,) * 6)), "houses 6\n" + "kind 5:5 5:5 5:5 5:5\n" * 6)

    def test_read(self):
        self.assertEqual(read_works(RULES), WORKS)
        self.assertEqual(read_works("houses 1\nkind\nkind\n"), Works(1, ((), ())))
        self.assertEqual(read_works("houses 6\n" + "kind 5:5 5:5 5:5 5:5\n" * 6), Works(6, (((5, 5),) * 4,) * 6))

    def test_fact_of_texts(self):
        chance = random.Random(1)
        for _ in range(200):
            works = any_works(chance)
            text = works_text(works)
            self.assertEqual(read_works(text), works)
            self.assertEqual(works_text(read_works(text)), text)

    def test_bad_works_behind_bad_text(self):
        for text, part in [
            ("houses 0\nkind\n", "many"), ("houses 7\nkind\n", "many"), ("houses 999999999\nkind 1:1\n", "many"),
            ("houses 1\n" + "kind\n" * 7, -1), ("houses 7\n" + "kind\n" * 7, "many"), ("houses 2\nkind 2:0\n", 0),
            ("houses 2\nkind 0:1\n", 0), ("houses 2\nkind\nkind 0:1\nkind 0:3\n", 2), ("houses 2\nkind" + " 0:0" * 5 + "\n", 0),
            ("houses 2\nkind 999999999:999999999\n", 0), ("houses 2\nkind 1:0\nkind" + " 1:1" * 5 + "\n", 1),
        ]:
            for read, rest in ((read_works, ""), (read_record, ""), (read_record, "given 9 99\ndo 9\n")):
                with self.assertRaises(BadWorks, msg=text) as caught:
                    read(text + rest)
                self.assertEqual(caught.exception.part, part)
            self.assertEqual(line_of(text + "kind 1\n", read_works), text.count("\n") + 1)
            self.assertEqual(line_of(text[:-1], read_works), text.count("\n"))

    def test_no_record(self):
        for rest in ("given 0 0\n", "do 0\n", "say 0 tree\n", "hear 0 0\n"):
            self.assertEqual(line_of(RULES + rest, read_works), 3)
            self.assertEqual(line_of(RULES + "kind\nkind 0:0\n" + rest + "x\n", read_works), 5)


class RecordTest(unittest.TestCase):
    def test_text(self):
        works = Works(2, (((1, 0),), (), ((0, 1), (1, 2), (0, 0))))
        events = (("do", 0), ("hear", 1, 0), ("say", 1, "tree"), ("say", 0, "ring"), ("say", 0, "coin"))
        record = Record(works, ((0, 3), (2, 12)), events)
        self.assertEqual(record_text(record), GOOD)
        self.assertEqual(read_record(GOOD), record)
        self.assertEqual(record_text(Record(WORKS, (), ())), RULES)
        self.assertEqual(read_record(RULES), Record(WORKS, (), ()))

    def test_order_is_kept(self):
        given = ((0, 3), (0, 1), (0, 12), (0, 0), (0, 1))
        events = (("do", 1), ("do", 0), ("say", 1, "coin"), ("do", 1), ("hear", 0, 1), ("hear", 1, 0))
        record = Record(WORKS, given, events)
        found = read_record(record_text(record))
        self.assertEqual((found.given, found.events), (given, events))

    def test_fact_of_texts(self):
        chance = random.Random(2)
        for number in range(150):
            works = any_works(chance) if number % 2 else EACH[number // 2 % 5]
            given = some_given(works, chance)
            events = some_events(works, given, chance, chance.randint(0, 30), chance.choice((0, 3)))
            record = Record(works, given, events)
            text = record_text(record)
            self.assertEqual(read_record(text), record)
            self.assertEqual(record_text(read_record(text)), text)

    def test_great(self):
        events = (("say", 5, "tree"), ("hear", 4, 3)) * 1000
        record = Record(Works(6, (((5, 5),) * 4,) * 6), ((5, 12),) * 20, events)
        text = record_text(record)
        self.assertGreater(len(text), 20000)
        self.assertEqual(read_record(text), record)

    def test_errors_in_order(self):
        for rest in ("given 1 0\n", "given 0 13\n", "given 999999999 0\n", "given 0 0\n" * 21):
            for events in ("", "do 9\n", "do 0\n" * 2001):
                with self.assertRaises(NoGiven):
                    read_record(RULES + rest + events)
        for rest, index in [
            ("do 2\n", 0), ("do 0\nhear 2 0\n", 1), ("do 0\nhear 0 2\n", 1), ("say 1 tree\nsay 2 tree\nsay 3 coin\n", 1),
            ("do 999999999\n", 0), ("do 0\n" * 2001, -1), ("do 9\n" * 2001, -1),
        ]:
            for given in ("", "given 0 1\n"):
                with self.assertRaises(BadRecord) as caught:
                    read_record(RULES + given + rest)
                self.assertEqual(caught.exception.index, index)
        self.assertEqual(line_of(RULES + "given 9 9\ndo 9\nx\n"), 5)

    def test_of_works_alone(self):
        self.assertEqual(read_record("houses 1\nkind\n"), Record(Works(1, ((),)), (), ()))


class BadTextTest(unittest.TestCase):
    def test_no_string(self):
        for thing in odd_things() + [b"houses 2\nkind 1:0\n", [RULES], ["houses 2", "kind 1:0"], (RULES,), WORKS]:
            for read in (read_works, read_record):
                if not isinstance(thing, str):
                    self.assertEqual(line_of(thing, read), 0, repr(thing)[:60])
                else:
                    self.assertEqual(line_of(thing, read), 1)

    def test_a_line_lacks(self):
        for read in (read_works, read_record):
            self.assertEqual(line_of("", read), 1)
            self.assertEqual(line_of("\n", read), 1)
            self.assertEqual(line_of("houses 2\n", read), 2)
            self.assertEqual(line_of("houses 9\n", read), 2)
            self.assertEqual(line_of("kind 1:0\n", read), 1)
            self.assertEqual(line_of("houses 2\n\n", read), 2)
        self.assertEqual(line_of("houses 2\ngiven 0 0\n"), 2)
        self.assertEqual(line_of("houses 2\ndo 0\n"), 2)
        self.assertEqual(line_of("do 0\n"), 1)

    def test_behind_the_last_line_feed(self):
        for read in (read_works, read_record):
            for rest in ("kind", "kind 1:0", " ", "x", "houses 2", "houses"):
                self.assertEqual(line_of(rest, read), 1)
                self.assertEqual(line_of("houses 2\n" + rest, read), 2)
                self.assertEqual(line_of(RULES + rest, read), 3)
                self.assertEqual(line_of("houses 9\nkind 9:9\nkind\n" + rest, read), 4)
        for rest in ("do 0", "given 0 0", " ", "say 0 tree"):
            self.assertEqual(line_of(GOOD + rest), 12)
        self.assertEqual(line_of(GOOD[:-1]), 11)
        self.assertEqual(line_of("houses 2\nkinds\nkind"), 2)

    def test_each_line_otherwise(self):
        lines = GOOD.split("\n")[:-1]
        wrong = [
            "", " ", "houses", "houses 2", "kind ", " kind", "kind  1:0", "kind 1:0 ", "kind 1", "kind 1:", "kind :0",
            "kind 1:0:0", "kind 1:0,1:0", "kind 1:0  1:0", "kind 1 :0", "kind 1: 0", "kinds", "Kind", "KIND 1:0", "given",
            "given 0", "given 0 0 0", "given  0 0", "given 0  0", "given 0 0 ", " given 0 0", "given 0:0", "givens 0 0",
            "do", "do 0 0", "do  0", "do 0 ", " do 0", "Do 0", "done 0", "hear", "hear 0", "hear 0 0 0", "hear  0 0",
            "hear 0  0", "hear 0 0 ", "hear 0 tree", "say", "say 0", "say 0 0", "say 0 Tree", "say 0 trees", "say 0 tree ",
            "say 0  tree", "say tree", "say tree 0", "say 0 tree ring", "say 0 ", "say  0 tree", " say 0 tree",
            "say 0 mark", "pass 0", "x", "|", "houses 2 2", "houses two", "#",
        ]
        for at in range(len(lines)):
            for line in wrong:
                if (at, line) != (0, "houses 2"):
                    text = "\n".join(lines[:at] + [line] + lines[at + 1:]) + "\n"
                    self.assertEqual(line_of(text), at + 1, (at, line))

    def test_numbers(self):
        lines = GOOD.split("\n")[:-1]
        forms = [
            (0, "houses {}"), (1, "kind {}:0"), (1, "kind 1:{}"), (3, "kind 0:1 {}:2 0:0"), (3, "kind 0:1 1:2 0:{}"),
            (4, "given {} 3"), (4, "given 0 {}"), (5, "given {} 12"), (6, "do {}"), (7, "hear {} 0"), (7, "hear 1 {}"),
            (8, "say {} tree"),
        ]
        for at, form in forms:
            for number in NO_NUMBERS:
                text = "\n".join(lines[:at] + [form.format(number)] + lines[at + 1:]) + "\n"
                self.assertEqual(line_of(text), at + 1, (form, number))
            for number in ("0", "10", "123456789", "999999999"):
                text = "\n".join(lines[:at] + [form.format(number)] + lines[at + 1:]) + "\n"
                self.assertIsNone(self.sort_of_answer(text), (form, number))

    def test_left_out_doubled_moved(self):
        lines = GOOD.split("\n")[:-1]
        sorts = [0, 1, 1, 1, 2, 2] + [3] * 5
        for at in range(len(lines)):
            twice = "\n".join(lines[:at + 1] + lines[at:]) + "\n"
            self.assertEqual(self.sort_of_answer(twice), 2 if at == 0 else None)
            without = "\n".join(lines[:at] + lines[at + 1:]) + "\n"
            self.assertEqual(self.sort_of_answer(without), 1 if at == 0 else None)
        # Each order of the sorts of lines.
        for one, other in itertools.permutations(range(len(lines)), 2):
            moved = [line for place, line in enumerate(lines) if place != one]
            kinds = [sort for place, sort in enumerate(sorts) if place != one]
            moved.insert(other, lines[one])
            kinds.insert(other, sorts[one])
            due = next((at + 1 for at, sort in enumerate(kinds) if not self.is_due(kinds[:at], sort)), None)
            found = self.sort_of_answer("\n".join(moved) + "\n")
            self.assertEqual(found, due)

    def is_due(self, ahead, sort):
        if not ahead:
            return sort == 0
        return sort >= max(1, ahead[-1]) and (len(ahead) > 1 or sort == 1)

    def sort_of_answer(self, text):
        """The line that BadText tells; None for a record, or an error behind that."""
        try:
            read_record(text)
        except BadText as error:
            return error.line
        except (BadWorks, NoGiven, BadRecord):
            pass
        return None

    def test_the_first_of_several(self):
        self.assertEqual(line_of("houses 2\nkind 1:0\nx\ny\nz"), 3)
        self.assertEqual(line_of("house 2\nkinds 1:0\n"), 1)
        self.assertEqual(line_of("houses 2\nkind 1:0\ndo 0\ngiven 0 0\nkind\n"), 4)
        self.assertEqual(line_of("houses 2\nkind 1:0\ndo 0\nkind\ngiven 0 0\n"), 4)
        self.assertEqual(line_of("\n" * 5), 1)
        self.assertEqual(line_of("houses 2\nkind\n" + "\n" * 5), 3)

    def test_long_texts(self):
        self.assertEqual(line_of("x" * 20000), 1)
        with self.assertRaises(BadWorks):
            read_works("houses 2\n" + "kind\n" * 3998)
        self.assertEqual(line_of("houses 1" + "0" * 19000 + "\nkind\n"), 1)
        self.assertEqual(line_of("\n" * 20000), 1)


if __name__ == "__main__":
    unittest.main()
