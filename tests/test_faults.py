"""[7] Why a thing is no book, and need_book. Also [2]: of anything, and nothing is changed."""

import copy
import unittest

from sparecount.books import need_book, why_no_book
from sparecount.errors import NoBook

ONE = ("number", 1)
NO_SHAPE = ("number", 1000)
NO_NAME = ("name", "y")


def chain(within, last=ONE):
    """A term that has its last one within so many others."""
    for _ in range(within):
        last = ("zero", "x", last, ONE)
    return last


def fill(many):
    """A term with so many terms, each within few others: an odd number, or one more by a case."""
    if many == 1:
        return ONE
    if many % 2 == 0:
        return ("open", "x", (("k", (), fill(many - 1)),))
    left = (many - 1) // 2
    return ("zero", "x", fill(left), fill(many - 1 - left))


def book_of(*terms):
    """A book with x around in each of its errands."""
    return tuple((word, ("x",), term) for word, term in zip("fghkmn", terms))


class Faults(unittest.TestCase):
    def told(self, fault, *terms):
        with self.subTest(terms=terms):
            self.assertEqual(why_no_book(book_of(*terms)), fault)

    def test_books(self):
        self.told(None, ONE)
        self.told(None, *[ONE] * 6)

    def test_forty_and_forty_one_terms(self):
        for many in (1, 2, 39, 40):
            self.told(None, fill(many))
        for many in (41, 42, 100):
            self.told("great", fill(many))

    def test_terms_are_counted_by_errands(self):
        self.told(None, *[fill(40)] * 6)
        self.told("great", fill(40), fill(41))
        self.told("great", fill(41), fill(40))

    def test_within_twelve_and_thirteen_others(self):
        for within in (0, 1, 11, 12):
            self.told(None, chain(within))
        for within in (13, 14, 19):
            self.told("great", chain(within))
        self.told(None, *[chain(12)] * 6)
        self.told("great", chain(12), chain(13))

    def test_within_others_by_each_part(self):
        one_more = (
            ("let", "a", chain(12), ONE), ("let", "a", ONE, chain(12)), ("zero", "x", ONE, chain(12)),
            ("open", "x", (("k", (), ONE), ("l", (), chain(12)))),
        )
        for term in one_more:
            self.told("great", term)

    def test_shape_is_ahead_of_names(self):
        self.told("shape", NO_SHAPE, NO_NAME)
        self.told("shape", NO_NAME, NO_SHAPE)
        self.told("shape", ("zero", "y", ONE, NO_SHAPE))
        self.told("shape", ("let", "x", NO_NAME, ("let", "x", ONE, NO_SHAPE)))
        self.assertEqual(why_no_book((("f", (), ONE), ("f", (), ONE), ("f", (), None))), "shape")

    def test_names_are_ahead_of_great(self):
        self.told("names", chain(13), NO_NAME)
        self.told("names", NO_NAME, chain(13))
        self.told("names", chain(13, NO_NAME))
        self.told("names", ("zero", "x", fill(41), NO_NAME))
        self.assertEqual(why_no_book((("f", ("x",), fill(41)), ("f", (), ONE))), "names")

    def test_shape_is_ahead_of_great(self):
        self.told("shape", chain(13), NO_SHAPE)
        self.told("shape", NO_SHAPE, fill(41))
        self.told("shape", chain(13, NO_SHAPE))
        self.told("shape", fill(100), NO_NAME, chain(40, NO_SHAPE))

    def test_shape_is_told_whatever_names_there_are(self):
        self.told("shape", ("name", "Y"))
        self.told("names", ("name", "y"))
        self.told("names", ("ask", "nobody", ()))

    def test_things_of_all_kinds(self):
        for thing in (
            None, True, False, 0, 10 ** 59, "", "f", "f = 7", "a" * 15000, (), [], {}, (None,),
            [("f", (), ONE)], {"f": ((), ONE)}, (("f", (), ONE), None), ((),), ([],), ({},), (((),),),
            (("f", (), {"number": 1}),), ("f", (), ONE),
        ):
            with self.subTest(thing=thing):
                self.assertEqual(why_no_book(thing), "shape")

    def test_things_some_hundreds_within_one_another(self):
        pile, row, table = (), [], {}
        for _ in range(299):
            pile, row, table = (pile,), [row], {"f": table}
        for thing in (pile, row, table):
            self.assertEqual(why_no_book(thing), "shape")
            self.assertEqual(why_no_book((("f", (), thing),)), "shape")
            self.assertEqual(why_no_book((("f", (), ("let", "x", ONE, thing)),)), "shape")

    def test_terms_some_hundreds_within_one_another(self):
        self.told("great", chain(297))
        self.told("names", chain(297, NO_NAME))
        self.told("shape", chain(297, NO_SHAPE))
        self.told("shape", chain(297, None))
        term = ONE
        for word in ["w" + one + other for one in "abcdefghijklmn" for other in "abcdefghijklmnopqrst"]:
            term = ("let", word, ONE, term)
        self.told("great", term)

    def test_things_of_many_terms(self):
        self.told("great", fill(3500))
        self.told("names", ("zero", "x", fill(3500), NO_NAME))
        self.told("shape", ("zero", "x", fill(3500), NO_SHAPE))
        self.assertEqual(why_no_book(tuple([("f", (), ONE)] * 3000)), "shape")

    def test_nothing_that_is_handed_in_is_changed(self):
        for thing in ([1, {"a": [2]}], (("f", ["x"], {"let": [ONE]}),), book_of(chain(13)), book_of(ONE)):
            before = copy.deepcopy(thing)
            why_no_book(thing)
            self.assertEqual(thing, before)


class NeedBook(unittest.TestCase):
    def test_a_book_is_let_through(self):
        self.assertIsNone(need_book(book_of(ONE)))

    def test_what_is_no_book_is_refused_with_its_fault(self):
        for thing, fault in (
            (None, "shape"), ((), "shape"), ([], "shape"), (book_of(NO_SHAPE), "shape"),
            (book_of(NO_NAME), "names"), (book_of(chain(13)), "great"), (book_of(fill(41)), "great"),
        ):
            with self.subTest(thing=thing):
                with self.assertRaises(NoBook) as caught:
                    need_book(thing)
                self.assertEqual(caught.exception.fault, fault)


if __name__ == "__main__":
    unittest.main()
