"""[8], [9] Plain runs. Also [2]: refusals and their order, and nothing is changed."""

import copy
import unittest

from helpers import ONE, UNIT, boxes, lets, nested
from sparecount.books import why_no_book
from sparecount.errors import NoAsking, NoMost
from sparecount.plain import run

COUNT_DOWN = (
    "f",
    ("n",),
    ("zero", "n", ("number", 5), lets(("a", ONE), ("b", ("less", "n", "a")), last=("ask", "f", ("b",)))),
)
# Adds the numbers of a row of boxes: more(7, more(8, end())).
TOTAL = (
    "total",
    ("row",),
    ("open", "row", (
        ("end", (), ("number", 0)),
        ("more", ("head", "tail"), ("let", "rest", ("ask", "total", ("tail",)), ("plus", "head", "rest"))),
    )),
)
# Makes a row of n boxes around what it has.
WRAP = (
    "wrap",
    ("n", "row"),
    ("zero", "n", ("name", "row"), lets(
        ("one", ONE), ("m", ("less", "n", "one")), ("next", ("box", "w", ("row",))),
        last=("ask", "wrap", ("m", "next")),
    )),
)
# Doubles what it has n times: a box of what it has and the same again.
DOUBLE = (
    "double",
    ("n", "what"),
    ("zero", "n", ("name", "what"), lets(
        ("one", ONE), ("m", ("less", "n", "one")), ("two", ("box", "w", ("what", "what"))),
        last=("ask", "double", ("m", "two")),
    )),
)
LOOP = (("f", (), ("ask", "f", ())),)


def book_of(term, names=("x", "y", "z")):
    """A book of one errand f, and of g, which gives its first name, and h, which gives 4."""
    return (("f", names, term), ("g", ("a", "b"), ("name", "a")), ("h", (), ("number", 4)))


class Terms(unittest.TestCase):
    def told(self, told, term, *things):
        book = book_of(term, ("x", "y", "z")[:len(things)])
        with self.subTest(term=term, things=things):
            self.assertIsNone(why_no_book(book))
            self.assertEqual(run(book, "f", things, 300), told)

    def gives(self, thing, term, *things, asks=1, made=0):
        self.told((("done", thing), asks, made), term, *things)

    def sticks(self, term, *things, asks=1, made=0):
        self.told((("stuck",), asks, made), term, *things)

    def test_number(self):
        for n in (0, 7, 999):
            self.gives(n, ("number", n))

    def test_name(self):
        for thing in (0, 999, UNIT, ("w", (1, UNIT, 3))):
            self.gives(thing, ("name", "x"), thing)
        self.gives(2, ("name", "y"), 1, 2, 3)

    def test_plus(self):
        for one, other, both in (
            (0, 0, 0), (3, 4, 7), (999, 0, 999), (999, 1, 0), (600, 700, 300), (999, 999, 998),
        ):
            self.gives(both, ("plus", "x", "y"), one, other)
        self.gives(14, ("plus", "x", "x"), 7)

    def test_less(self):
        for one, other, rest in ((0, 0, 0), (7, 4, 3), (4, 7, 997), (0, 1, 999), (0, 999, 1), (999, 999, 0)):
            self.gives(rest, ("less", "x", "y"), one, other)
        self.gives(0, ("less", "x", "x"), 7)

    def test_box(self):
        self.gives(("w", ()), ("box", "w", ()), made=1)
        self.gives(("w", (5,)), ("box", "w", ("x",)), 5, made=1)
        self.gives(("v", (6, 5)), ("box", "v", ("y", "x")), 5, 6, made=1)
        self.gives(("w", (UNIT, 2, UNIT)), ("box", "w", ("x", "y", "x")), UNIT, 2, made=1)

    def test_ask(self):
        self.gives(4, ("ask", "h", ()), asks=2)
        self.gives(8, ("ask", "g", ("y", "x")), 7, 8, asks=2)
        self.gives(UNIT, ("ask", "g", ("x", "x")), UNIT, asks=2)

    def test_let(self):
        self.gives(3, ("let", "a", ("number", 3), ("name", "a")))
        self.gives(9, ("let", "a", ("plus", "x", "y"), ("plus", "a", "x")), 2, 5)
        self.gives(("v", (UNIT,)), ("let", "a", ("box", "unit", ()), ("box", "v", ("a",))), made=2)
        inner = ("let", "a", ("ask", "h", ()), ("plus", "a", "x"))
        self.gives(12, ("let", "b", inner, ("plus", "b", "x")), 4, asks=2)

    def test_let_does_its_first_part_first(self):
        stuck = ("plus", "x", "x")
        box = ("box", "w", ())
        self.sticks(("let", "a", stuck, box), UNIT)
        self.sticks(("let", "a", box, stuck), UNIT, made=1)
        self.sticks(("let", "a", ("ask", "h", ()), stuck), UNIT, asks=2)

    def test_zero(self):
        term = ("zero", "x", ("number", 3), ("box", "w", ()))
        self.gives(3, term, 0)
        for n in (1, 999):
            self.gives(("w", ()), term, n, made=1)

    def test_open(self):
        term = ("open", "x", (
            ("k", ("a", "b"), ("less", "a", "b")), ("l", (), ONE), ("m", ("c",), ("name", "c")),
            ("n", ("d", "e", "i"), ("box", "v", ("i", "e", "d"))),
        ))
        self.gives(6, term, ("k", (9, 3)))
        self.gives(1, term, ("l", ()))
        self.gives(UNIT, term, ("m", (UNIT,)))
        self.gives(("v", (3, 2, 1)), term, ("n", (1, 2, 3)), made=1)

    def test_open_may_be_done_again(self):
        again = ("open", "x", (("k", ("b",), ("plus", "a", "b")),))
        self.gives(10, ("open", "x", (("k", ("a",), again),)), ("k", (5,)))

    def test_plus_and_less_meet_boxes(self):
        for kind in ("plus", "less"):
            for things in ((UNIT, 1), (1, UNIT), (UNIT, UNIT), (("k", (1,)), 0)):
                self.sticks((kind, "x", "y"), *things)

    def test_zero_meets_a_box(self):
        for thing in (UNIT, ("k", (0,))):
            self.sticks(("zero", "x", ONE, ONE), thing)

    def test_open_meets_numbers(self):
        for n in (0, 1, 999):
            self.sticks(("open", "x", (("k", (), ONE),)), n)

    def test_open_meets_boxes_that_no_case_fits(self):
        term = ("open", "x", (("k", (), ONE), ("l", ("a", "b"), ONE)))
        for thing in (("m", ()), ("k", (1,)), ("l", ()), ("l", (1,)), ("l", (1, 2, 3)), ("m", (1, 2))):
            self.sticks(term, thing)
        self.gives(1, term, ("l", (1, 2)))

    def test_stuck_ends_all(self):
        stuck = (
            ("f", ("x",), lets(("a", ("box", "w", ())), ("b", ("ask", "g", ("x",))), last=("ask", "h", ()))),
            ("g", ("y",), ("let", "c", ("box", "w", ()), ("plus", "y", "y"))),
            ("h", (), ("box", "w", ())),
        )
        self.assertEqual(run(stuck, "f", (UNIT,), 300), (("stuck",), 2, 2))
        self.assertEqual(run(stuck, "f", (3,), 300), (("done", ("w", ())), 3, 3))

    def test_words_are_those_of_each_asking(self):
        term = ("zero", "n", ("number", 0), lets(
            ("a", ONE), ("m", ("less", "n", "a")), ("s", ("ask", "sum", ("m",))), last=("plus", "s", "n"),
        ))
        self.assertEqual(run((("sum", ("n",), term),), "sum", (10,), 300), (("done", 55), 11, 0))

    def test_boxes_opened_and_made_by_errands(self):
        row = ("more", (7, ("more", (8, ("end", ())))))
        self.assertEqual(run((TOTAL,), "total", (row,), 300), (("done", 15), 3, 0))
        self.assertEqual(run((WRAP,), "wrap", (3, 5), 300), (("done", nested(3, 5)), 4, 3))

    def test_is_defined_in_its_file(self):
        self.assertEqual(run.__module__, "sparecount.plain")


class Much(unittest.TestCase):
    def told_of(self, thing):
        end, asks, made = run(book_of(("name", "x"), ("x",)), "f", (thing,), 300)
        self.assertEqual((asks, made), (1, 0))
        return end

    def test_sixty_and_sixty_one_boxes(self):
        for many in (40, 59, 60):
            self.assertEqual(self.told_of(boxes(many)), ("done", boxes(many)))
        for many in (61, 62, 100):
            self.assertEqual(self.told_of(boxes(many)), ("much",))

    def test_within_twelve_and_thirteen_others(self):
        for within in (0, 11, 12):
            self.assertEqual(self.told_of(nested(within)), ("done", nested(within)))
        for within in (13, 14, 30):
            self.assertEqual(self.told_of(nested(within)), ("much",))

    def test_numbers_stand_within_as_many_boxes_as_they_like(self):
        self.assertEqual(self.told_of(nested(13, 5)), ("done", nested(13, 5)))
        self.assertEqual(self.told_of(nested(14, 5)), ("much",))

    def test_within_others_in_each_part(self):
        for at in range(3):
            for within, end in ((11, None), (12, ("much",))):
                parts = [0, 0, 0]
                parts[at] = nested(within)
                thing = ("v", tuple(parts))
                self.assertEqual(self.told_of(thing), end or ("done", thing))

    def test_boxes_made_are_told_as_those_handed_in(self):
        self.assertEqual(run((WRAP,), "wrap", (12, UNIT), 300), (("done", nested(12)), 13, 12))
        self.assertEqual(run((WRAP,), "wrap", (13, UNIT), 300), (("much",), 14, 13))

    def test_a_box_is_counted_as_often_as_it_stands_there(self):
        # Doubled n times, 2 ** n of the inner one stand there: with a unit
        # that is 31 boxes by four times and 63 by five times.
        end, asks, made = run((DOUBLE,), "double", (4, UNIT), 300)
        self.assertEqual((end[0], asks, made), ("done", 5, 4))
        self.assertEqual(run((DOUBLE,), "double", (5, UNIT), 300), (("much",), 6, 5))
        end, asks, made = run((DOUBLE,), "double", (5, 0), 300)
        self.assertEqual((end[0], asks, made), ("done", 6, 5))
        self.assertEqual(run((DOUBLE,), "double", (6, 0), 300), (("much",), 7, 6))
        part = boxes(20)
        threes = book_of(("box", "w", ("x", "x", "x")), ("x",))
        self.assertEqual(run(threes, "f", (part,), 300), (("much",), 1, 1))
        twos = book_of(("box", "w", ("x", "x")), ("x",))
        self.assertEqual(run(twos, "f", (part,), 300), (("done", ("w", (part, part))), 1, 1))

    def test_what_stands_there_too_often_to_be_counted(self):
        self.assertEqual(run((DOUBLE,), "double", (299, UNIT), 300), (("much",), 300, 299))

    def test_only_the_thing_told_out_is_much(self):
        term = ("let", "a", ("ask", "double", ("x", "y")), ONE)
        book = (("f", ("x", "y"), term), DOUBLE)
        self.assertEqual(run(book, "f", (200, UNIT), 300), (("done", 1), 202, 200))


class Long(unittest.TestCase):
    def test_the_first_ask_is_counted(self):
        book = book_of(("number", 7), ())
        self.assertEqual(run(book, "f", (), 0), (("long",), 0, 0))
        self.assertEqual(run(book, "f", (), 1), (("done", 7), 1, 0))

    def test_as_many_as_the_most_and_one_more(self):
        for n in (0, 1, 5, 299):
            with self.subTest(n=n):
                self.assertEqual(run((COUNT_DOWN,), "f", (n,), n + 1), (("done", 5), n + 1, 0))
                self.assertEqual(run((COUNT_DOWN,), "f", (n,), n), (("long",), n, 0))
        self.assertEqual(run((COUNT_DOWN,), "f", (300,), 300), (("long",), 300, 0))

    def test_each_most(self):
        for most in range(301):
            self.assertEqual(run(LOOP, "f", (), most), (("long",), most, 0))

    def test_boxes_made_until_then(self):
        term = ("let", "a", ("box", "w", ("x",)), ("ask", "f", ("a",)))
        for most in (0, 1, 40, 300):
            self.assertEqual(run((("f", ("x",), term),), "f", (0,), most), (("long",), most, most))

    def test_asks_that_wait_for_one_another(self):
        term = ("let", "a", ("ask", "f", ()), ("name", "a"))
        for most in (0, 1, 300):
            self.assertEqual(run((("f", (), term),), "f", (), most), (("long",), most, 0))

    def test_asks_behind_one_another_are_counted_too(self):
        term = ("let", "a", ("ask", "h", ()), ("let", "b", ("ask", "h", ()), ("plus", "a", "b")))
        self.assertEqual(run(book_of(term, ()), "f", (), 3), (("done", 8), 3, 0))
        self.assertEqual(run(book_of(term, ()), "f", (), 2), (("long",), 2, 0))

    def test_what_ends_ahead_of_one_ask_more_is_not_long(self):
        self.assertEqual(run(book_of(("plus", "x", "x"), ("x",)), "f", (UNIT,), 1), (("stuck",), 1, 0))
        self.assertEqual(run(book_of(("name", "x"), ("x",)), "f", (boxes(61),), 1), (("much",), 1, 0))


class Refusals(unittest.TestCase):
    BOOK = (("f", ("x", "y"), ("plus", "x", "y")), ("g", (), ONE))

    def test_errands_that_there_are_not(self):
        for word in ("h", "x", "", "F", "ff", "open", None, 0, True, ("f",), [], {}):
            for most in (0, 300):
                with self.subTest(word=word), self.assertRaises(NoAsking):
                    run(self.BOOK, word, (), most)

    def test_another_number_of_things(self):
        for word, things in (("f", ()), ("f", (1,)), ("f", (1, 2, 3)), ("g", (1,)), ("g", (1, 2))):
            with self.subTest(word=word, things=things), self.assertRaises(NoAsking):
                run(self.BOOK, word, things, 300)
        self.assertEqual(run(self.BOOK, "f", (1, 2), 300), (("done", 3), 1, 0))
        self.assertEqual(run(self.BOOK, "g", (), 300), (("done", 1), 1, 0))

    def test_what_is_no_tuple_of_things(self):
        for things in (None, 0, 2, True, "xy", "", {}):
            for word in ("f", "g"):
                with self.subTest(word=word, things=things), self.assertRaises(NoAsking):
                    run(self.BOOK, word, things, 300)

    def test_a_most_that_is_no_such_number(self):
        for most in (
            -1, 301, -300, 10 ** 59, -(10 ** 59), True, False, None, "", "5", (), (5,), [5], {}, {5: 5},
        ):
            with self.subTest(most=most), self.assertRaises(NoMost):
                run(self.BOOK, "f", (1, 2), most)
        for most in (1, 2, 299, 300):
            with self.subTest(most=most):
                self.assertEqual(run(self.BOOK, "f", (1, 2), most), (("done", 3), 1, 0))
        self.assertEqual(run(self.BOOK, "f", (1, 2), 0), (("long",), 0, 0))

    def test_no_asking_is_ahead_of_no_most(self):
        for most in (-1, 301, True, None, "5"):
            for word, things in (("h", ()), ("f", ()), ("f", (1, 2, 3)), ("g", (1,))):
                with self.subTest(word=word, things=things, most=most), self.assertRaises(NoAsking):
                    run(self.BOOK, word, things, most)


class HandedIn(unittest.TestCase):
    def test_what_is_handed_in_stays_as_it_was(self):
        things = (3, ("w", (1, UNIT)))
        term = ("let", "c", ("plus", "a", "n"), ("box", "v", ("b", "c")))
        book = (("f", ("n", "row"), ("open", "row", (("w", ("a", "b"), term),))),)
        before = copy.deepcopy((book, things))
        self.assertEqual(run(book, "f", things, 300), (("done", ("v", (UNIT, 4))), 1, 1))
        self.assertEqual((book, things), before)

    def test_nothing_is_kept_from_run_to_run(self):
        for _ in range(3):
            self.assertEqual(run((WRAP,), "wrap", (2, 0), 300), (("done", nested(2, 0)), 3, 2))
            self.assertEqual(run(LOOP, "f", (), 7), (("long",), 7, 0))

    def test_books_and_things_somewhat_beyond_their_sizes(self):
        words = ["w" + one + other for one in "abcdef" for other in "abcdefghij"]
        term = lets(*[(word, ("plus", "x", "x")) for word in words], last=("name", "x"))
        self.assertEqual(run((("f", ("x",), term),), "f", (4,), 1), (("done", 4), 1, 0))
        term = ("number", 2)
        for word in words:
            term = ("let", word, term, ("name", word))
        self.assertEqual(run((("f", (), term),), "f", (), 1), (("done", 2), 1, 0))


if __name__ == "__main__":
    unittest.main()
