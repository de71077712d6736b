"""[5] Names that are around, words bound once, and asks of errands that there are."""

import unittest

from sparecount.books import why_no_book

ONE = ("number", 1)


def naming(word):
    """A term of each kind that names a word, in each place where it may."""
    return (
        ("name", word),
        ("plus", word, "x"),
        ("plus", "x", word),
        ("less", word, "x"),
        ("less", "x", word),
        ("box", "w", (word,)),
        ("box", "w", ("x", "x", word)),
        ("ask", "g", (word, "x")),
        ("ask", "g", ("x", word)),
        ("zero", word, ONE, ONE),
        ("open", word, (("k", (), ONE),)),
    )


def asked(term):
    """A book with x around in its first errand, and g to be asked with two words."""
    return (("f", ("x",), term), ("g", ("a", "b"), ("name", "a")))


class Names(unittest.TestCase):
    def keeps(self, thing):
        with self.subTest(thing=thing):
            self.assertIsNone(why_no_book(thing))

    def breaks(self, thing):
        with self.subTest(thing=thing):
            self.assertEqual(why_no_book(thing), "names")

    def test_names_of_the_errand(self):
        for term in naming("x"):
            self.keeps(asked(term))

    def test_names_not_around(self):
        for word in ("a", "f", "g", "k", "w", "y"):
            for term in naming(word):
                self.breaks(asked(term))

    def test_names_of_a_later_errand(self):
        for term in naming("y"):
            self.keeps((("e", (), ONE), ("g", ("a", "b"), ONE), ("f", ("x", "y"), term)))
            self.breaks((("e", ("y",), ONE), ("g", ("a", "b"), ONE), ("f", ("x",), term)))

    def test_a_let_has_its_x_in_its_last_part_alone(self):
        for term in naming("y"):
            self.keeps(asked(("let", "y", ONE, term)))
            self.breaks(asked(("let", "y", term, ONE)))
            self.breaks(asked(("let", "z", ("let", "y", ONE, ONE), term)))

    def test_a_let_within_a_let(self):
        for term in naming("y"):
            self.keeps(asked(("let", "y", ONE, ("let", "z", term, ONE))))
            self.keeps(asked(("let", "y", ONE, ("let", "z", ONE, term))))

    def test_a_case_has_its_words_in_its_own_term(self):
        for term in naming("y"):
            self.keeps(asked(("open", "x", (("k", ("z", "y"), term), ("l", (), ONE)))))
            self.breaks(asked(("open", "x", (("k", ("z", "y"), ONE), ("l", (), term)))))
            self.breaks(asked(("open", "x", (("l", (), term), ("k", ("z", "y"), ONE)))))
            self.breaks(asked(("let", "v", ("open", "x", (("k", ("y",), ONE),)), term)))

    def test_a_case_keeps_what_is_around(self):
        for term in naming("x"):
            self.keeps(asked(("open", "x", (("k", ("y",), term),))))
        self.keeps(asked(("open", "x", (("k", ("y",), ("let", "z", ("name", "y"), ("plus", "y", "z"))),))))

    def test_both_parts_of_a_zero(self):
        for term in naming("x"):
            self.keeps(asked(("zero", "x", term, ONE)))
            self.keeps(asked(("zero", "x", ONE, term)))
        for term in naming("y"):
            self.breaks(asked(("zero", "x", term, ONE)))
            self.breaks(asked(("zero", "x", ONE, term)))

    def test_words_bound_twice_by_names(self):
        self.breaks((("f", ("x", "x"), ONE),))
        self.breaks((("f", ("x", "y", "z", "x"), ONE),))
        self.breaks(asked(("let", "x", ONE, ONE)))
        self.breaks(asked(("open", "x", (("k", ("x",), ONE),))))

    def test_words_bound_twice_by_lets_and_cases(self):
        let = ("let", "y", ONE, ONE)
        case = ("open", "x", (("k", ("y",), ONE),))
        for one in (let, case):
            for other in (let, case):
                self.keeps(asked(one))
                self.breaks(asked(("let", "z", one, other)))
                self.breaks(asked(("zero", "x", one, other)))
                self.breaks(asked(("open", "x", (("m", (), one), ("n", (), other)))))
        self.breaks(asked(("let", "y", let, ONE)))
        self.breaks(asked(("let", "y", ONE, let)))
        self.breaks(asked(("open", "x", (("k", ("y", "y"), ONE),))))
        self.breaks(asked(("open", "x", (("k", ("y",), ONE), ("l", ("y",), ONE)))))
        self.breaks(asked(("open", "x", (("k", ("y",), let),))))

    def test_words_bound_in_more_errands_than_one(self):
        let = ("let", "y", ONE, ("name", "y"))
        self.keeps((("f", ("x",), let), ("g", ("x",), let)))

    def test_words_of_errands_and_boxes_may_be_bound_too(self):
        self.keeps((("f", ("f",), ("box", "f", ("f",))),))
        self.keeps((("f", ("x",), ("open", "x", (("k", ("k", "f"), ("plus", "k", "f")),))),))

    def test_asks_of_errands_that_there_are_not(self):
        self.keeps((("f", (), ("ask", "g", ())), ("g", (), ("ask", "f", ()))))
        self.breaks((("f", (), ("ask", "g", ())),))
        self.breaks((("f", (), ONE), ("g", (), ("let", "y", ("ask", "h", ()), ONE))))

    def test_asks_with_another_number_of_words(self):
        words = ("x", "x", "x", "x")
        for many in range(5):
            for names in range(5):
                book = (("f", ("x",), ("ask", "g", words[:many])), ("g", ("a", "b", "c", "d")[:names], ONE))
                if many == names:
                    self.keeps(book)
                else:
                    self.breaks(book)

    def test_errands_called_alike(self):
        self.breaks((("f", (), ONE), ("f", (), ONE)))
        self.breaks((("f", (), ONE), ("g", (), ONE), ("f", ("x",), ("name", "x"))))

    def test_cases_of_one_word(self):
        self.keeps(asked(("open", "x", (("k", (), ONE), ("l", (), ONE)))))
        self.breaks(asked(("open", "x", (("k", (), ONE), ("k", (), ONE)))))
        self.breaks(asked(("open", "x", (("k", (), ONE), ("l", (), ONE), ("k", ("y",), ONE)))))
        self.keeps(asked(("open", "x", (("k", (), ("open", "x", (("k", (), ONE),))),))))


if __name__ == "__main__":
    unittest.main()
