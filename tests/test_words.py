"""[4] Words, and how terms, errands and books are made."""

import unittest

from sparecount import books
from sparecount.books import is_word, why_no_book

LANGUAGE_WORDS = ("be", "box", "else", "in", "keep", "let", "look", "loose", "open", "zero")
NO_TEXTS = (None, True, False, 0, 7, -1, 10 ** 59, (), ("a",), [], ["a"], {}, {"a": "a"})
NEAR_WORDS = (
    "", "abcdefghi", "A", "aB", "Ab", "a1", "1", "a b", " a", "a ", "a\n", "\n", "a_b", "_", "a-b",
    "a.b", "&a", "~", "a'", " ", "\u00e9",
)


def book_of(term, names=("x", "y", "z", "v")):
    """A book of one errand, so that x, y, z and v are around in its term."""
    return (("f", names, term),)


class Words(unittest.TestCase):
    def test_words(self):
        for word in ("a", "z", "ab", "abcdefgh", "zzzzzzzz", "boxes", "opens", "lets", "be" * 2):
            with self.subTest(word=word):
                self.assertIs(is_word(word), True)

    def test_words_of_terms_that_the_language_leaves_free(self):
        for word in ("again", "plus", "less", "name", "number", "ask", "done", "w", "q"):
            with self.subTest(word=word):
                self.assertIs(is_word(word), True)

    def test_near_words(self):
        for text in NEAR_WORDS:
            with self.subTest(text=text):
                self.assertIs(is_word(text), False)

    def test_long_texts(self):
        self.assertIs(is_word("a" * 15000), False)

    def test_words_of_the_language(self):
        self.assertEqual(len(set(LANGUAGE_WORDS)), 10)
        for word in LANGUAGE_WORDS:
            with self.subTest(word=word):
                self.assertIs(is_word(word), False)

    def test_things_that_are_no_texts(self):
        for thing in NO_TEXTS:
            with self.subTest(thing=thing):
                self.assertIs(is_word(thing), False)

    def test_is_defined_in_its_file(self):
        for function in (
            is_word, why_no_book, books.need_book, books.parts_of, books.all_places, books.term_at,
        ):
            self.assertEqual(function.__module__, "sparecount.books")


class Shapes(unittest.TestCase):
    def is_book(self, term):
        with self.subTest(term=term):
            self.assertIsNone(why_no_book(book_of(term)))

    def is_shape(self, term):
        with self.subTest(term=term):
            self.assertEqual(why_no_book(book_of(term)), "shape")

    def is_no_word_place(self, made):
        """Everything that is no word is put where made wants a word."""
        for thing in NO_TEXTS + NEAR_WORDS + LANGUAGE_WORDS:
            self.is_shape(made(thing))

    def test_number(self):
        for n in (0, 1, 999):
            self.is_book(("number", n))
        for n in (-1, 1000, 10 ** 59, -(10 ** 59), True, False, None, "0", (), (1,), [1], {}):
            self.is_shape(("number", n))
        for term in (("number",), ("number", 1, 1), ("number", 1, None)):
            self.is_shape(term)

    def test_name(self):
        self.is_book(("name", "x"))
        for term in (("name",), ("name", "x", "x"), ("name", ("x",))):
            self.is_shape(term)
        self.is_no_word_place(lambda thing: ("name", thing))

    def test_plus_and_less(self):
        for kind in ("plus", "less"):
            self.is_book((kind, "x", "y"))
            self.is_book((kind, "x", "x"))
            for term in ((kind,), (kind, "x"), (kind, "x", "y", "z"), (kind, ("x", "y"))):
                self.is_shape(term)
            self.is_no_word_place(lambda thing: (kind, thing, "x"))
            self.is_no_word_place(lambda thing: (kind, "x", thing))

    def test_box(self):
        for words in ((), ("x",), ("x", "y"), ("x", "y", "z"), ("x", "x", "x")):
            self.is_book(("box", "w", words))
        for words in (("x", "y", "z", "v"), ["x"], [], "x", "", None, 0, {}, {"x": "x"}):
            self.is_shape(("box", "w", words))
        for term in (("box",), ("box", "w"), ("box", "w", (), ()), ("box", (), "w")):
            self.is_shape(term)
        self.is_no_word_place(lambda thing: ("box", thing, ()))
        self.is_no_word_place(lambda thing: ("box", "w", ("x", "y", thing)))

    def test_ask(self):
        for names in ((), ("x",), ("x", "y"), ("x", "y", "z"), ("x", "y", "z", "v")):
            with self.subTest(names=names):
                self.assertIsNone(why_no_book((("f", names, ("ask", "f", names)),)))
        for words in (("x",) * 5, list("xyzv"), "xyzv", None, 4, {}):
            self.is_shape(("ask", "f", words))
        for term in (("ask",), ("ask", "f"), ("ask", "f", (), ())):
            self.is_shape(term)
        self.is_no_word_place(lambda thing: ("ask", thing, ("x", "y", "z", "v")))
        self.is_no_word_place(lambda thing: ("ask", "f", ("x", "y", "z", thing)))

    def test_let(self):
        one = ("number", 1)
        self.is_book(("let", "a", one, one))
        for term in (
            ("let",), ("let", "a"), ("let", "a", one), ("let", "a", one, one, one),
            ("let", "a", None, one), ("let", "a", one, None), ("let", "a", (), one),
            ("let", "a", one, ("nothing",)), ("let", "a", list(one), one),
        ):
            self.is_shape(term)
        self.is_no_word_place(lambda thing: ("let", thing, one, one))

    def test_zero(self):
        one = ("number", 1)
        self.is_book(("zero", "x", one, one))
        for term in (
            ("zero",), ("zero", "x"), ("zero", "x", one), ("zero", "x", one, one, one),
            ("zero", "x", 5, one), ("zero", "x", one, "name"), ("zero", "x", one, ("number", 1000)),
        ):
            self.is_shape(term)
        self.is_no_word_place(lambda thing: ("zero", thing, one, one))

    def test_open(self):
        one = ("number", 1)
        four = tuple((word, (), one) for word in ("k", "l", "m", "n"))
        for cases in (four[:1], four[:2], four[:3], four):
            self.is_book(("open", "x", cases))
        for cases in ((), four + (("o", (), one),), list(four), None, "k", ("k", (), one), {}, 1):
            self.is_shape(("open", "x", cases))
        for term in (("open",), ("open", "x"), ("open", "x", four, four)):
            self.is_shape(term)
        self.is_no_word_place(lambda thing: ("open", thing, four))

    def test_cases(self):
        one = ("number", 1)
        for words in ((), ("a",), ("a", "b"), ("a", "b", "c")):
            self.is_book(("open", "x", (("k", words, one),)))
        for case in (
            ("k", ("a", "b", "c", "d"), one), ("k", ["a"], one), ("k", "a", one), ("k", None, one),
            ["k", (), one], ("k", ()), ("k", (), one, one), (), None, "k", ("k", (), None),
            ("k", (), list(one)), ("k", (), ("number", -1)),
        ):
            self.is_shape(("open", "x", (case,)))
            self.is_shape(("open", "x", (("l", (), one), case)))
        self.is_no_word_place(lambda thing: ("open", "x", ((thing, (), one),)))
        self.is_no_word_place(lambda thing: ("open", "x", (("k", ("a", thing), one),)))

    def test_things_that_are_no_terms(self):
        for term in NO_TEXTS + NEAR_WORDS + LANGUAGE_WORDS + (
            ("Number", 1), ("numbers", 1), (None, 1), (("number", 1),), (1, "number"), ([], 1),
            ({}, 1), ["number", 1], {"number": 1}, (True, "x"), ("", "x"),
        ):
            self.is_shape(term)

    def test_held_terms_are_no_plain_ones(self):
        one = ("number", 1)
        for term in (
            ("keep", "x", one), ("loose", "x", one), ("look", "x", (("k", (), one),)),
            ("open", "x", (("k", ("a",), ("again", "x", "k", ("a",))),)),
        ):
            self.is_shape(term)

    def test_errands(self):
        one = ("number", 1)
        words = ("f", "g", "h", "k", "l", "m", "n")
        for many in (1, 2, 5, 6):
            with self.subTest(many=many):
                self.assertIsNone(why_no_book(tuple((word, (), one) for word in words[:many])))
        self.assertEqual(why_no_book(()), "shape")
        self.assertEqual(why_no_book(tuple((word, (), one) for word in words)), "shape")

    def test_how_an_errand_is_made(self):
        one = ("number", 1)
        for names in ((), ("a",), ("a", "b"), ("a", "b", "c"), ("a", "b", "c", "d")):
            with self.subTest(names=names):
                self.assertIsNone(why_no_book((("f", names, one),)))
        for errand in (
            ("f", ("a", "b", "c", "d", "e"), one), ("f", ["a"], one), ("f", "a", one),
            ("f", None, one), ("f", ()), ("f", one), ("f", (), one, one), ("f", (), (), one),
            ["f", (), one], (), None, "f", 1, {}, ("f", (), None), ("f", (), [one]),
        ):
            with self.subTest(errand=errand):
                self.assertEqual(why_no_book((errand,)), "shape")
                self.assertEqual(why_no_book((("g", (), one), errand)), "shape")
        for thing in NO_TEXTS + NEAR_WORDS + LANGUAGE_WORDS:
            with self.subTest(thing=thing):
                self.assertEqual(why_no_book(((thing, (), one),)), "shape")
                self.assertEqual(why_no_book((("f", ("a", thing), one),)), "shape")

    def test_lists_where_tuples_stand(self):
        one = ("number", 1)
        self.assertIsNone(why_no_book((("f", (), one),)))
        for thing in ([("f", (), one)], (["f", (), one],), (("f", [], one),), (("f", (), [*one]),)):
            with self.subTest(thing=thing):
                self.assertEqual(why_no_book(thing), "shape")


if __name__ == "__main__":
    unittest.main()
