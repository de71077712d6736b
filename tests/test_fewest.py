"""[19] The sayings of held books, and the fewest with which a book can be counted."""

import copy
import itertools
import unittest

from chance import Maker
from sparecount import fewest as fewest_file
from sparecount.books import why_no_book
from sparecount.errors import TooMany
from sparecount.fewest import fewest, rows_of_truths, sayings
from sparecount.lends import counted_by
from written import held, plain


def said_in(term):
    """How many keeps and looses a term is, and has within it."""
    inner = [part for part in term if isinstance(part, tuple)]
    return (term[:1] in (("keep",), ("loose",)) and len(term) == 3) + sum(said_in(part) for part in inner)


def all_marks(book):
    """All ways to lend the names of a book, as tuples rise."""
    ways = [list(itertools.product((False, True), repeat=len(errand[1]))) for errand in book]
    return list(itertools.product(*ways))


class Interface(unittest.TestCase):
    def test_they_are_defined_in_their_file(self):
        for function in (fewest_file.sayings, fewest_file.fewest):
            self.assertEqual(function.__module__, "sparecount.fewest")

    def test_what_is_handed_in_stays(self):
        book = plain("f x y = g(x)", "g a = box w(a, a)")
        told = counted_by(book, ((False, True), (True,)))
        before = copy.deepcopy((book, told))
        fewest(book)
        sayings(told)
        self.assertEqual((book, told), before)

    def test_what_sorts_of_things_are_told(self):
        told = fewest(plain("f x = 1", "g = 1"))
        self.assertEqual(told, (0, ((True,), ())))
        self.assertEqual([type(told), type(told[0]), type(told[1]), type(told[1][0])], [tuple, int, tuple, tuple])
        self.assertIs(told[1][0][0], True)
        self.assertIs(type(sayings(held("f x = loose x; 1"))), int)


class Sayings(unittest.TestCase):
    def test_none(self):
        for line in ("f = 1", "f x = look x {w a: a}", "f x = open x {w a: again x w(a)}", "f &x = let y be x in y"):
            self.assertEqual(sayings(held(line)), 0)

    def test_keeps_and_looses_alike(self):
        self.assertEqual(sayings(held("f x = keep x; 1")), 1)
        self.assertEqual(sayings(held("f x = loose x; 1")), 1)
        self.assertEqual(sayings(held("f x = keep x; loose x; keep x; 1")), 3)

    def test_wherever_they_stand(self):
        self.assertEqual(sayings(held("f x y = let z be keep x; 1 in loose y; 2")), 2)
        self.assertEqual(sayings(held("f x y = zero x {loose y; 1} else {zero x {keep y; 1} else {keep y; 2}}")), 3)
        self.assertEqual(sayings(held("f x = open x {w: keep x; 1; v: keep x; keep x; 2; u: 3}")), 3)
        self.assertEqual(sayings(held("f x = look x {w a: keep a; 1; v: loose x; loose x; 2}")), 3)

    def test_as_they_stand_not_as_they_run(self):
        self.assertEqual(sayings(held("f x = let y be 0 in zero y {1} else {keep x; f(x)}")), 1)

    def test_of_all_errands(self):
        self.assertEqual(sayings(held("f x = keep x; 1", "g = 1", "h x = loose x; keep x; 1")), 3)

    def test_words_are_no_sayings(self):
        self.assertEqual(sayings(held("f x = box keeps(x)", "keeps = looses()", "looses = box w()")), 0)

    def test_greater_ones_than_held_books_may_be(self):
        term = ("name", "x")
        for _ in range(100):
            term = ("keep", "x", ("loose", "x", term))
        self.assertEqual(sayings((("f", ("x",), (False,), ("zero", "x", term, term)),)), 400)


class Fewest(unittest.TestCase):
    def told(self, lines, many, *marks):
        with self.subTest(lines=lines):
            book = plain(*lines)
            self.assertIsNone(why_no_book(book))
            self.assertEqual(fewest(book), (many, marks))

    def test_no_names(self):
        self.told(["f = 1"], 0, ())
        self.told(["f = box w()", "g = let a be f() in 1"], 1, (), ())
        self.told(["f = let a be g() in let b be f() in box w(a, a, b)", "g = f()"], 1, (), ())

    def test_lent_where_that_says_less(self):
        self.told(["f x = 1"], 0, (True,))
        self.told(["f x = x"], 0, (False,))
        self.told(["f x y = x"], 0, (False, True))
        self.told(["f x y = y"], 0, (True, False))
        self.told(["f x = open x {w a b: 1; v: 2}"], 0, (True,))
        self.told(["f x y = zero y {x} else {1}"], 1, (False, False))

    def test_of_the_fewest_the_first_marks(self):
        self.told(["f x y = x + y"], 0, (False, False))
        self.told(["f x y = zero x {y} else {let a be 1 in y}"], 0, (False, False))
        self.told(["f x = g(x)", "g a = zero a {1} else {f(a)}"], 0, (False,), (False,))
        self.told(["f x y z = y - z"], 0, (True, False, False))
        self.told(["f x = 1", "g y = y + y", "h z = 2"], 0, (True,), (False,), (True,))
        self.told(["f x = box w(x, x)"], 1, (False,))
        self.told(["f x = zero x {1} else {2}", "g a = let b be f(a) in b"], 0, (False,), (False,))

    def test_marks_are_gone_through_as_they_rise(self):
        for many in range(6):
            self.assertEqual(rows_of_truths(many), list(itertools.product((False, True), repeat=many)))

    def test_marks_hang_on_those_of_others(self):
        self.told(["f x = g(x)", "g a = 1"], 0, (True,), (True,))
        # What is lent to g is kept there once, and otherwise ahead of each ask of it.
        lines = ["f x y = let b be g(x) in let c be g(y) in box w(b, x, y)", "g a = box v(a)"]
        self.told(lines, 2, (False, False), (True,))
        # What g owns is loosed there once, and otherwise behind each ask of it.
        first = "f = let x be h() in let y be h() in let b be g(x) in let c be g(y) in box w(b, c)"
        self.told([first, "g a = box v()", "h = box u()"], 1, (), (False,), ())

    def test_up_to_eight_names_in_all(self):
        self.told(["f a b c d = 1", "g a b c d = 2"], 0, (True,) * 4, (True,) * 4)
        self.told(["f a b c d = a", "g a b c = c", "h = 1", "i x = x"], 0,
                  (False, True, True, True), (True, True, False), (), (False,))

    def test_more_names_are_refused(self):
        for lines in (
            ["f a b c d = 1", "g a b c d = 2", "h x = 3"],
            ["f a b c d = a", "g a b c d = f(a, b, c, d)", "h x y z w = x"],
            ["a x y = x", "b x y = x", "c x y = x", "d x y = x", "e x = x", "f = 1"],
        ):
            with self.subTest(lines=lines), self.assertRaises(TooMany):
                fewest(plain(*lines))

    def test_held_against_all_marks_one_by_one(self):
        lent = 0
        for seed in range(60):
            book = Maker(seed, most_names=2).book()
            if sum(len(errand[1]) for errand in book) > 6:
                continue
            many, marks = fewest(book)
            counts = [(said_in(counted_by(book, ways)), ways) for ways in all_marks(book)]
            with self.subTest(seed=seed, book=book):
                self.assertEqual((many, marks), min(counts))
                self.assertEqual(sayings(counted_by(book, marks)), many)
            lent += any(True in truths for truths in marks)
        self.assertGreater(lent, 10)


if __name__ == "__main__":
    unittest.main()
