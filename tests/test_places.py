"""[6] Parts and places, of plain and of held books."""

import unittest

from sparecount.books import all_places, parts_of, term_at

ONE = ("number", 1)
TWO = ("number", 2)
NAME = ("name", "x")
LET = ("let", "a", ("zero", "x", ONE, TWO), NAME)
OPEN = ("open", "x", (("k", ("b", "c"), LET), ("l", (), TWO), ("m", ("d",), ("name", "d"))))
PLAIN = (("f", ("x",), OPEN), ("g", (), ONE), ("h", ("y",), ("zero", "y", ONE, ("ask", "g", ()))))
PLAIN_PLACES = [
    ("f",),
    ("f", 0),
    ("f", 0, 0),
    ("f", 0, 0, 0),
    ("f", 0, 0, 1),
    ("f", 0, 1),
    ("f", 1),
    ("f", 2),
    ("g",),
    ("h",),
    ("h", 0),
    ("h", 1),
]
AGAIN = ("again", "x", "k", ("b",))
LOOK = ("look", "x", (("k", (), ONE), ("l", ("c",), ("loose", "x", TWO))))
HELD = (
    ("f", ("x",), (False,), ("keep", "x", ("let", "a", LOOK, ("open", "x", (("k", ("b",), AGAIN),))))),
    ("g", ("y",), (True,), ("name", "y")),
)
HELD_PLACES = [
    ("f",),
    ("f", 0),
    ("f", 0, 0),
    ("f", 0, 0, 0),
    ("f", 0, 0, 1),
    ("f", 0, 0, 1, 0),
    ("f", 0, 1),
    ("f", 0, 1, 0),
    ("g",),
]


class Parts(unittest.TestCase):
    def test_terms_without_parts(self):
        for term in (
            ONE, NAME, ("plus", "x", "y"), ("less", "x", "y"), ("box", "w", ("x", "y", "z")),
            ("box", "w", ()), ("ask", "f", ("x",)), AGAIN,
        ):
            with self.subTest(term=term):
                self.assertEqual(parts_of(term), ())

    def test_terms_with_parts(self):
        for term, parts in (
            (("let", "a", ONE, TWO), (ONE, TWO)),
            (("zero", "x", TWO, NAME), (TWO, NAME)),
            (("open", "x", (("k", ("a",), NAME),)), (NAME,)),
            (OPEN, (LET, TWO, ("name", "d"))),
            (("keep", "x", NAME), (NAME,)),
            (("loose", "x", TWO), (TWO,)),
            (LOOK, (ONE, ("loose", "x", TWO))),
            (("look", "x", (("k", (), LOOK),)), (LOOK,)),
        ):
            with self.subTest(term=term):
                told = parts_of(term)
                self.assertIsInstance(told, tuple)
                self.assertEqual(told, parts)


class Places(unittest.TestCase):
    def test_plain_places_in_order(self):
        self.assertEqual(all_places(PLAIN), PLAIN_PLACES)

    def test_held_places_in_order(self):
        self.assertEqual(all_places(HELD), HELD_PLACES)

    def test_places_are_tuples_in_a_list(self):
        for book in (PLAIN, HELD):
            self.assertIsInstance(all_places(book), list)
            for place in all_places(book):
                self.assertIsInstance(place, tuple)

    def test_a_told_list_is_a_new_one(self):
        told = all_places(PLAIN)
        told.clear()
        self.assertEqual(all_places(PLAIN), PLAIN_PLACES)

    def test_terms_at_plain_places(self):
        terms = (
            OPEN, LET, ("zero", "x", ONE, TWO), ONE, TWO, NAME, TWO, ("name", "d"), ONE,
            ("zero", "y", ONE, ("ask", "g", ())), ONE, ("ask", "g", ()),
        )
        for place, term in zip(PLAIN_PLACES, terms, strict=True):
            with self.subTest(place=place):
                self.assertEqual(term_at(PLAIN, place), term)

    def test_terms_at_held_places(self):
        kinds = ("keep", "let", "look", "number", "loose", "number", "open", "again", "name")
        for place, kind in zip(HELD_PLACES, kinds, strict=True):
            with self.subTest(place=place):
                self.assertEqual(term_at(HELD, place)[0], kind)
        self.assertEqual(term_at(HELD, ("f", 0, 0)), LOOK)
        self.assertEqual(term_at(HELD, ("f", 0, 1, 0)), AGAIN)
        self.assertEqual(term_at(HELD, ("g",)), ("name", "y"))

    def test_held_books_far_within_one_another(self):
        term = ("name", "x")
        for _ in range(200):
            term = ("keep", "x", term)
        held = (("f", ("x",), (False,), term),)
        places = all_places(held)
        self.assertEqual(places, [("f",) + (0,) * within for within in range(201)])
        self.assertEqual(term_at(held, places[-1]), ("name", "x"))


if __name__ == "__main__":
    unittest.main()
