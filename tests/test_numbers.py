"""[16] What surely gives numbers, with [13]: which terms do, and which names are shown numbers where."""

import copy
import unittest

from helpers import ONE, lets
from sparecount import numbers
from sparecount.books import why_no_book
from sparecount.helds import why_no_held
from sparecount.numbers import give_numbers

MAKE = ("box", "w", ())
X = ("name", "x")
PLUS = ("plus", "x", "y")
GIVING = (ONE, ("number", 0), PLUS, ("less", "x", "y"), ("ask", "sure", ()))
DOUBTFUL = (X, MAKE, ("box", "w", ("x", "y")), ("ask", "doubt", ()))
HELPERS = (("sure", (), ONE), ("doubt", (), MAKE))


def held_book(book):
    """The same errands with nothing lent."""
    return tuple((word, names, (False,) * len(names), term) for word, names, term in book)


class Told(unittest.TestCase):
    """Looks at the errand f, with x and y around, beside one that surely gives a number and one that doesn't."""

    def of_books(self, book):
        """What is told of a plain book, or of a held one."""
        if why_no_book(book) == "shape":
            self.assertIn(why_no_held(book), (None, "great"))
            return give_numbers(book)
        self.assertIn(why_no_book(book), (None, "great"))
        self.assertEqual(give_numbers(held_book(book)), give_numbers(book))
        return give_numbers(book)

    def told_of(self, term, is_held):
        book = (("f", ("x", "y"), term),) + HELPERS
        return self.of_books(held_book(book) if is_held else book)

    def gives(self, term, is_held=False):
        with self.subTest(term=term):
            self.assertEqual(self.told_of(term, is_held), (["f", "sure"], {"doubt": ("doubt",)}))

    def doubts(self, place, term, is_held=False):
        with self.subTest(term=term):
            self.assertEqual(
                self.told_of(term, is_held), (["sure"], {"f": ("f",) + place, "doubt": ("doubt",)}),
            )


class Ends(Told):
    def test_ends(self):
        for term in GIVING:
            self.gives(term)
        for term in DOUBTFUL:
            self.doubts((), term)

    def test_an_again_is_a_box(self):
        again = ("again", "x", "w", ("y",))
        self.doubts((0,), ("open", "x", (("k", (), again),)), True)
        self.gives(("open", "x", (("k", (), ("let", "a", again, ONE)),)), True)

    def test_a_let_ends_by_its_last_part_alone(self):
        for term in GIVING + DOUBTFUL:
            for last in GIVING:
                self.gives(("let", "a", term, last))
        for term in GIVING + (MAKE,):
            for last in DOUBTFUL:
                if (term, last) not in [(PLUS, X), (("less", "x", "y"), X)]:
                    self.doubts((1,), ("let", "a", term, last))

    def test_keep_and_loose_end_by_their_part(self):
        for kind in ("keep", "loose"):
            for term in GIVING:
                self.gives((kind, "x", term), True)
                self.gives((kind, "x", ("keep", "y", term)), True)
            for term in DOUBTFUL:
                self.doubts((0,), (kind, "x", term), True)
                self.doubts((0, 0), (kind, "x", ("loose", "y", term)), True)

    def test_a_zero_ends_by_both_of_its_parts(self):
        for one in GIVING:
            for other in GIVING:
                self.gives(("zero", "y", one, other))
            for other in DOUBTFUL:
                self.doubts((1,), ("zero", "y", one, other))
                self.doubts((0,), ("zero", "y", other, one))
        self.doubts((0,), ("zero", "y", MAKE, MAKE))

    def test_opens_and_looks_end_by_each_of_their_cases(self):
        for kind in ("open", "look"):
            is_held = kind == "look"
            for at in range(4):
                for term in GIVING + DOUBTFUL:
                    terms = [ONE, ONE, ONE, ONE]
                    terms[at] = term
                    cases = tuple((word, (), part) for word, part in zip("klmn", terms))
                    if term in GIVING:
                        self.gives((kind, "x", cases), is_held)
                    else:
                        self.doubts((at,), (kind, "x", cases), is_held)

    def test_words_of_cases_are_not_shown_numbers(self):
        for kind in ("open", "look"):
            for word in "ab":
                self.doubts((0,), (kind, "x", (("k", ("a", "b"), ("name", word)),)), kind == "look")

    def test_the_first_place_in_order(self):
        self.doubts((0,), ("zero", "y", MAKE, X))
        self.doubts((0, 1), ("zero", "y", ("zero", "y", ONE, X), MAKE))
        self.doubts((1, 0), ("zero", "y", ("zero", "y", ONE, ONE), ("zero", "y", MAKE, MAKE)))
        self.doubts((2, 1, 0), ("open", "x", (
            ("k", (), ONE), ("l", ("a",), ("plus", "a", "a")), ("m", (), ("let", "b", MAKE, ("zero", "y", X, MAKE))),
            ("n", (), MAKE),
        )))
        self.doubts((1, 1, 0), ("let", "a", MAKE, ("zero", "y", ONE, ("keep", "x", MAKE))), True)


class Names(Told):
    def test_a_let_binds_a_name_to_what_surely_gives_a_number(self):
        for term in GIVING:
            self.gives(("let", "a", term, ("name", "a")))
        for term in DOUBTFUL:
            self.doubts((1,), ("let", "a", term, ("name", "a")))

    def test_by_each_of_the_ends_of_what_it_is_bound_to(self):
        for one in GIVING:
            self.gives(("let", "a", ("zero", "y", one, ONE), ("name", "a")))
            self.gives(("let", "a", ("let", "b", MAKE, one), ("name", "a")))
            self.gives(("let", "a", ("keep", "x", ("loose", "x", one)), ("name", "a")), True)
        for one in DOUBTFUL:
            self.doubts((1,), ("let", "a", ("zero", "y", one, ONE), ("name", "a")))
            self.doubts((1,), ("let", "a", ("zero", "y", ONE, one), ("name", "a")))
            self.doubts((1,), ("let", "a", ("open", "y", (("k", (), ONE), ("l", (), one))), ("name", "a")))
            self.doubts((1,), ("let", "a", ("look", "y", (("k", (), ONE), ("l", (), one))), ("name", "a")), True)
            self.doubts((1,), ("let", "a", ("let", "b", ONE, one), ("name", "a")))

    def test_a_name_bound_to_a_name_that_is_shown_one(self):
        self.gives(lets(("a", ONE), ("b", ("name", "a")), ("c", ("name", "b")), last=("name", "c")))
        self.doubts((1, 1), lets(("a", X), ("b", ("name", "a")), last=("name", "b")))
        self.gives(lets(("a", PLUS), ("b", X), last=("name", "b")))

    def test_what_is_shown_later_shows_no_name_bound_ahead(self):
        self.doubts((1, 1), lets(("a", X), ("b", PLUS), last=("name", "a")))
        self.gives(lets(("a", X), ("b", PLUS), last=X))
        self.doubts((1, 1), lets(("a", X), ("b", ("plus", "a", "a")), last=X))
        self.gives(lets(("a", X), ("b", ("plus", "a", "a")), last=("name", "a")))

    def test_plus_and_less_show_both_of_their_names(self):
        for kind in ("plus", "less"):
            for word in "xy":
                self.gives(("let", "a", (kind, "x", "y"), ("name", word)))
            self.doubts((1,), ("let", "a", (kind, "y", "y"), X))

    def test_names_called_as_deeds_are(self):
        for word in ("plus", "less"):
            for kind in ("plus", "less"):
                for other, told in (("x", ([], {"f": ("f", 1)})), (word, (["f"], {}))):
                    term = ("let", "a", (kind, "x", other), ("name", word))
                    self.assertEqual(self.of_books((("f", ("x", word), term),)), told)

    def test_a_zero_shows_its_name_in_both_parts_and_behind_it(self):
        self.gives(("zero", "x", X, X))
        self.gives(("zero", "x", ("let", "a", MAKE, X), ("zero", "y", X, ("name", "y"))))
        self.gives(("let", "a", ("zero", "x", ONE, ONE), X))
        self.gives(("let", "a", ("zero", "x", MAKE, ("name", "y")), X))
        self.doubts((0,), ("zero", "y", X, X))

    def test_others_show_no_name(self):
        for term in (
            X, ("box", "w", ("x",)), ("ask", "two", ("x", "x")), ("open", "x", (("k", (), ONE),)),
            ("let", "b", X, ONE),
        ):
            book = (("f", ("x",), ("let", "a", term, X)), ("two", ("a", "b"), ("plus", "a", "b")))
            self.assertEqual(self.of_books(book), (["two"], {"f": ("f", 1)}))
        for term in (("keep", "x", ONE), ("loose", "x", ONE), ("look", "x", (("k", (), ONE),))):
            self.doubts((1,), ("let", "a", term, X), True)

    def test_shown_on_every_way(self):
        less = ("less", "x", "x")
        for made in (
            lambda one, other: ("zero", "y", one, other),
            lambda one, other: ("open", "y", (("k", (), one), ("l", ("c",), other))),
        ):
            self.gives(("let", "a", made(PLUS, less), X))
            self.doubts((1,), ("let", "a", made(PLUS, ONE), X))
            self.doubts((1,), ("let", "a", made(ONE, PLUS), X))
            self.doubts((1,), ("let", "a", made(MAKE, less), X))
            self.gives(("let", "a", made(PLUS, ("let", "b", less, MAKE)), X))
            self.gives(("let", "a", made(("zero", "x", MAKE, MAKE), less), X))
        for kind in ("keep", "loose"):
            self.gives(("let", "a", (kind, "y", PLUS), X), True)
        self.gives(("let", "a", ("look", "y", (("k", (), PLUS), ("l", (), less))), X), True)
        self.doubts((1,), ("let", "a", ("look", "y", (("k", (), PLUS), ("l", (), MAKE))), X), True)

    def test_shown_on_one_way_alone_is_shown_there(self):
        self.doubts((1,), ("zero", "y", ("let", "a", PLUS, X), X))
        self.gives(("zero", "y", ("let", "a", PLUS, X), ONE))
        self.doubts((0,), ("open", "y", (("k", (), X), ("l", (), ("let", "a", PLUS, X)))))

    def test_shown_within_lets_within_lets(self):
        inner = ("let", "b", ("let", "c", PLUS, MAKE), MAKE)
        self.gives(("let", "a", inner, X))
        self.gives(("let", "a", inner, ("let", "d", MAKE, ("name", "y"))))
        self.gives(("let", "a", ("let", "b", PLUS, X), ("name", "a")))
        self.gives(("let", "a", PLUS, ("let", "b", ("zero", "y", X, X), ("name", "b"))))
        self.doubts((1, 1), ("let", "a", ("let", "b", ("zero", "y", PLUS, ONE), MAKE), ("let", "c", MAKE, X)))

    def test_shown_on_the_ways_of_two_lets_together(self):
        # Of the inner let's two ways one shows x, and of the outer one's U each does.
        split = ("zero", "y", ("plus", "x", "x"), ONE)
        self.doubts((1,), ("let", "a", ("let", "b", split, ONE), X))
        self.gives(("let", "a", ("let", "b", split, ("zero", "b", ("less", "x", "x"), PLUS)), X))

    def test_a_let_keeps_what_was_shown_ahead(self):
        self.gives(lets(("a", PLUS), ("b", ("zero", "y", MAKE, MAKE)), ("c", MAKE), last=X))
        self.gives(("zero", "x", lets(("a", MAKE), last=X), lets(("b", ("name", "x")), last=("name", "b"))))


class Errands(Told):
    def test_errands_that_ask_one_another_in_a_ring(self):
        ring = (("f", (), ("ask", "g", ())), ("g", (), ("ask", "h", ())), ("h", (), ("ask", "f", ())))
        self.assertEqual(self.of_books(ring), (["f", "g", "h"], {}))
        self.assertEqual(self.of_books((("f", (), ("ask", "f", ())),)), (["f"], {}))
        two = (("f", (), ("ask", "h", ())), ("g", (), ("ask", "k", ())), ("h", (), ("ask", "f", ())))
        self.assertEqual(
            self.of_books(two + (("k", (), ("let", "a", ("ask", "g", ()), MAKE)),)),
            (["f", "h"], {"g": ("g",), "k": ("k", 1)}),
        )

    def test_a_ring_with_an_end_that_gives_a_number(self):
        ring = (
            ("f", ("x",), ("zero", "x", ONE, ("ask", "g", ("x",)))), ("g", ("x",), ("ask", "f", ("x",))),
        )
        self.assertEqual(self.of_books(ring), (["f", "g"], {}))

    def test_a_ring_with_an_end_that_doesnt(self):
        ring = (
            ("f", ("x",), ("ask", "g", ("x",))), ("g", ("x",), ("zero", "x", ("ask", "h", ("x",)), MAKE)),
            ("h", ("x",), ("zero", "x", ONE, ("ask", "f", ("x",)))), ("k", (), ("ask", "k", ())),
        )
        self.assertEqual(self.of_books(ring), (["k"], {"f": ("f",), "g": ("g", 0), "h": ("h", 1)}))

    def test_the_first_place_is_told_by_the_list_that_is_told(self):
        # The ask of g doesn't give a number as g doesn't, though g's box comes behind f's.
        book = (("f", ("x",), ("zero", "x", ("ask", "g", ()), MAKE)), ("g", (), MAKE))
        self.assertEqual(self.of_books(book), ([], {"f": ("f", 0), "g": ("g",)}))
        book = (
            ("f", ("x",), ("zero", "x", ("ask", "g", ("x",)), MAKE)), ("g", ("x",), ("ask", "h", ("x",))),
            ("h", ("x",), ("open", "x", (("k", ("a",), ("name", "a")),))),
        )
        self.assertEqual(self.of_books(book), ([], {"f": ("f", 0), "g": ("g",), "h": ("h", 0)}))

    def test_names_bound_to_asks_hang_on_the_list_too(self):
        book = (
            ("f", (), ("let", "a", ("ask", "g", ()), ("name", "a"))),
            ("g", (), ("let", "b", ("ask", "f", ()), ("name", "b"))),
        )
        self.assertEqual(self.of_books(book), (["f", "g"], {}))
        book = (
            ("f", ("x",), ("let", "a", ("ask", "g", ("x",)), ("name", "a"))),
            ("g", ("x",), ("zero", "x", ("let", "b", ("ask", "f", ("x",)), ("name", "b")), MAKE)),
        )
        self.assertEqual(self.of_books(book), ([], {"f": ("f", 1), "g": ("g", 0, 1)}))

    def test_a_long_row_of_asks(self):
        words = "fghkmn"
        row = tuple((word, (), ("ask", later, ())) for word, later in zip(words, words[1:]))
        self.assertEqual(self.of_books(row + (("n", (), ONE),)), (list(words), {}))
        told = self.of_books(row + (("n", (), MAKE),))
        self.assertEqual(told, ([], {word: (word,) for word in words}))
        self.assertEqual(list(told[1]), list(words))
        turned = (("n", (), MAKE),) + row[::-1]
        self.assertEqual(self.of_books(turned), ([], {word: (word,) for word in words}))

    def test_the_list_is_in_the_books_order(self):
        for words in (("f", "g", "h"), ("h", "g", "f"), ("g", "h", "f")):
            book = tuple((word, (), ONE) for word in words)
            self.assertEqual(self.of_books(book), (list(words), {}))
            book = book[:1] + (("k", (), MAKE),) + book[1:]
            self.assertEqual(self.of_books(book), (list(words), {"k": ("k",)}))

    def test_names_are_those_of_each_errand(self):
        book = (("f", ("x",), ("let", "a", ("plus", "x", "x"), X)), ("g", ("x",), X))
        self.assertEqual(self.of_books(book), (["f"], {"g": ("g",)}))

    def test_held_books_with_lent_names(self):
        for lent in ((True, True), (True, False), (False, False)):
            held = (("f", ("x", "y"), lent, ("let", "a", PLUS, X)), ("g", ("x", "y"), lent, X))
            self.assertEqual(self.of_books(held), (["f"], {"g": ("g",)}))


class HandedIn(unittest.TestCase):
    """[2] Nothing that is handed in is changed or kept, and what is told is the asker's own."""

    def test_what_is_handed_in_stays_as_it_was(self):
        book = (("f", ("x", "y"), ("let", "a", PLUS, X)), ("g", ("x", "y"), ("ask", "h", ())), ("h", (), MAKE))
        before = copy.deepcopy(book)
        for _ in range(3):
            told = give_numbers(book)
            self.assertEqual(told, (["f"], {"g": ("g",), "h": ("h",)}))
            self.assertEqual([type(told), type(told[0]), type(told[1])], [tuple, list, dict])
            self.assertEqual(book, before)
            told[0].clear()
            told[1].clear()

    def test_books_greater_than_held_ones(self):
        term = X
        for _ in range(200):
            term = ("keep", "x", term)
        held = (("f", ("x",), (False,), term),)
        self.assertEqual(give_numbers(held), ([], {"f": ("f",) + (0,) * 200}))
        term = ("plus", "x", "x")
        for at in range(199):
            term = ("let", "w" + "abcdefghij"[at // 20] + "abcdefghijklmnopqrst"[at % 20], term, X)
        self.assertEqual(give_numbers((("f", ("x",), (False,), term),)), (["f"], {}))
        term = X
        for _ in range(10):
            term = ("zero", "y", term, term)
        self.assertEqual(
            give_numbers((("f", ("x", "y"), (False, False), term),)), ([], {"f": ("f",) + (0,) * 10}),
        )

    def test_is_defined_in_its_file(self):
        self.assertEqual(numbers.give_numbers.__module__, "sparecount.numbers")


if __name__ == "__main__":
    unittest.main()
