"""[10] Held books: their shapes, names and sizes. Also [2]: of anything, and nothing is changed."""

import copy
import unittest

from sparecount import helds
from sparecount.books import all_places, term_at, why_no_book
from sparecount.helds import why_no_held

ONE = ("number", 1)
NO_SHAPE = ("number", 1000)
NO_NAME = ("name", "nobody")
NO_TEXTS = (None, True, False, 0, 7, -1, 10 ** 59, (), ("a",), [], ["a"], {}, {"a": "a"})
NO_WORDS = NO_TEXTS + (
    "", "abcdefghi", "A", "aB", "a1", "a b", "a ", "\n", "_", "&a", "be", "box", "else", "in", "keep",
    "let", "look", "loose", "open", "zero",
)
PLAIN_TERMS = (
    ONE,
    ("name", "x"),
    ("plus", "x", "y"),
    ("less", "y", "x"),
    ("box", "w", ("x", "y", "x")),
    ("ask", "f", ("x", "x", "y", "y")),
    ("let", "a", ONE, ("name", "a")),
    ("zero", "x", ONE, ONE),
    ("open", "x", (("k", ("a", "b"), ("plus", "a", "b")), ("l", (), ONE))),
)


def held_of(term, names=("x", "y", "z", "v")):
    """A held book of one errand, so that x, y, z and v are around in its term."""
    return (("f", names, (False,) * len(names), term),)


def opened(term, name="x"):
    """The term in a case of an open, so that an again in it may name what was opened."""
    return ("open", name, (("k", ("a", "b"), term),))


def chain(within, last=ONE, kind="keep"):
    """A term that has its last one within so many others."""
    for _ in range(within):
        last = (kind, "x", last)
    return last


def fill(many):
    """A term with so many terms, each within few others."""
    if many == 1:
        return ONE
    if many % 2 == 0:
        return ("loose", "x", fill(many - 1))
    left = (many - 1) // 2
    return ("zero", "x", fill(left), fill(many - 1 - left))


class Told(unittest.TestCase):
    def told(self, fault, thing):
        with self.subTest(thing=thing):
            self.assertEqual(why_no_held(thing), fault)

    def is_held(self, term):
        self.told(None, held_of(term))

    def is_shape(self, term):
        self.told("shape", held_of(term))

    def is_names(self, term):
        self.told("names", held_of(term))


class Shapes(Told):
    def is_no_word_place(self, made):
        """Everything that is no word is put where made wants a word."""
        for thing in NO_WORDS:
            self.is_shape(made(thing))

    def test_the_terms_of_plain_books(self):
        for term in PLAIN_TERMS:
            self.is_held(term)

    def test_plain_terms_made_wrong(self):
        for term in (
            NO_SHAPE, ("number", True), ("name",), ("plus", "x"), ("less", "x", "y", "z"),
            ("box", "w", ("x", "y", "z", "v")), ("box", "w", ["x"]), ("ask", "f", ("x",) * 5),
            ("let", "a", ONE), ("let", "a", None, ONE), ("zero", "x", ONE, NO_SHAPE), ("open", "x", ()),
            ("open", "x", (("k", ("a", "b", "c", "d"), ONE),)), ["number", 1], ("Number", 1), (), None,
        ):
            self.is_shape(term)
            self.is_shape(("keep", "x", term))
            self.is_shape(("look", "x", (("k", (), term),)))

    def test_keep_and_loose(self):
        for kind in ("keep", "loose"):
            for part in PLAIN_TERMS + (("keep", "y", ONE), ("loose", "x", ONE)):
                self.is_held((kind, "x", part))
            for term in (
                (kind,), (kind, "x"), (kind, "x", ONE, ONE), (kind, ONE), (kind, "x", None), (kind, "x", ()),
                (kind, "x", list(ONE)), (kind, "x", ("nothing",)), (kind, ("x",), ONE), [kind, "x", ONE],
            ):
                self.is_shape(term)
            self.is_no_word_place(lambda thing: (kind, thing, ONE))

    def test_look(self):
        four = tuple((word, (), ONE) for word in ("k", "l", "m", "n"))
        for cases in (four[:1], four[:2], four[:3], four):
            self.is_held(("look", "x", cases))
        for words in ((), ("a",), ("a", "b"), ("a", "b", "c")):
            self.is_held(("look", "x", (("k", words, ONE),)))
        for cases in ((), four + (("o", (), ONE),), list(four), None, "k", ("k", (), ONE), {}, 1):
            self.is_shape(("look", "x", cases))
        for case in (
            ("k", ("a", "b", "c", "d"), ONE), ("k", ["a"], ONE), ("k", "a", ONE), ["k", (), ONE],
            ("k", ()), ("k", (), ONE, ONE), (), None, ("k", (), None), ("k", (), NO_SHAPE),
        ):
            self.is_shape(("look", "x", (("l", (), ONE), case)))
        for term in (("look",), ("look", "x"), ("look", "x", four, four), ("look", four)):
            self.is_shape(term)
        self.is_no_word_place(lambda thing: ("look", thing, four))
        self.is_no_word_place(lambda thing: ("look", "x", ((thing, (), ONE),)))
        self.is_no_word_place(lambda thing: ("look", "x", (("k", ("a", thing), ONE),)))

    def test_again(self):
        for words in ((), ("x",), ("x", "y"), ("a", "b", "x"), ("x", "x", "x")):
            self.is_held(opened(("again", "x", "w", words)))
        for words in (("x", "y", "z", "v"), ["x"], [], "x", "", None, 0, {}, {"x": "x"}):
            self.is_shape(opened(("again", "x", "w", words)))
        for term in (
            ("again",), ("again", "x"), ("again", "x", "w"), ("again", "x", "w", (), ()), ("again", "w", ()),
            ("again", "x", (), "w"), ["again", "x", "w", ()],
        ):
            self.is_shape(opened(term))
        self.is_no_word_place(lambda thing: opened(("again", thing, "w", ())))
        self.is_no_word_place(lambda thing: opened(("again", "x", thing, ())))
        self.is_no_word_place(lambda thing: opened(("again", "x", "w", ("x", thing))))

    def test_errands(self):
        words = ("f", "g", "h", "k", "l", "m", "n")
        for many in (1, 2, 5, 6):
            self.told(None, tuple((word, (), (), ONE) for word in words[:many]))
        self.told("shape", ())
        self.told("shape", tuple((word, (), (), ONE) for word in words))

    def test_how_an_errand_is_made(self):
        for many in range(5):
            names = ("a", "b", "c", "d")[:many]
            self.told(None, (("f", names, (True,) * many, ONE),))
            self.told(None, (("f", names, (False, True, True, False)[:many], ONE),))
        for errand in (
            ("f", ("a", "b", "c", "d", "e"), (False,) * 5, ONE), ("f", ["a"], (False,), ONE),
            ("f", "a", (False,), ONE), ("f", (), ONE), ("f", (), ()), ("f", (), (), ONE, ONE),
            ["f", (), (), ONE], (), None, "f", {}, ("f", (), (), None), ("f", (), (), ()), ("f", (), ONE, ()),
        ):
            self.told("shape", (errand,))
            self.told("shape", (("g", (), (), ONE), errand))
        for thing in NO_WORDS:
            self.told("shape", ((thing, (), (), ONE),))
            self.told("shape", (("f", ("a", thing), (False, False), ONE),))

    def test_a_truth_for_each_name(self):
        for lent in (
            (), (True,), (True, False, True), [True, False], None, True, "ab", {}, (True, 0), (1, False),
            (None, True), ("", True), ((), False), (True, [False]),
        ):
            self.told("shape", (("f", ("a", "b"), lent, ONE),))
        self.told("shape", (("f", (), (False,), ONE),))
        self.told(None, (("f", ("a", "b"), (True, False), ONE),))

    def test_plain_books_are_no_held_ones_nor_the_other_way(self):
        plain = (("f", ("x",), ("name", "x")),)
        held = (("f", ("x",), (False,), ("name", "x")),)
        self.told("shape", plain)
        self.told(None, held)
        self.assertEqual(why_no_book(held), "shape")
        self.assertIsNone(why_no_book(plain))
        self.told("shape", plain + held)

    def test_things_of_all_kinds(self):
        for thing in (
            None, True, False, 0, 10 ** 59, "", "f = 7", "a" * 15000, (), [], {}, (None,), ((),), ([],), ({},),
            [("f", (), (), ONE)], {"f": ((), (), ONE)}, held_of(ONE) + (None,), ("f", (), (), ONE),
            held_of({"number": 1}), held_of([ONE]), held_of(held_of(ONE)),
        ):
            self.told("shape", thing)

    def test_things_some_hundreds_within_one_another(self):
        pile, row, table = (), [], {}
        for _ in range(299):
            pile, row, table = (pile,), [row], {"f": table}
        for thing in (pile, row, table):
            self.told("shape", thing)
            self.is_shape(thing)
            self.is_shape(("keep", "x", thing))


class Names(Told):
    def test_names_that_have_to_be_around(self):
        for made in (
            lambda word: ("keep", word, ONE),
            lambda word: ("loose", word, ONE),
            lambda word: ("look", word, (("k", (), ONE),)),
            lambda word: opened(("again", "x", "w", ("y", word))),
            lambda word: ("keep", "x", ("name", word)),
            lambda word: ("loose", "x", ("plus", "x", word)),
            lambda word: ("look", "x", (("k", (), ("box", "w", (word,))),)),
        ):
            self.is_held(made("x"))
            self.is_held(made("z"))
            for word in ("c", "f", "w", "k"):
                self.is_names(made(word))
                self.is_held(("let", word, ONE, made(word)))
                self.is_names(("let", word, made(word), ONE))

    def test_words_of_cases_are_around_in_their_own_terms(self):
        for kind in ("look", "open"):
            for term in (("name", "a"), ("keep", "a", ONE), ("loose", "a", ONE), ("look", "a", (("m", (), ONE),))):
                self.is_held((kind, "x", (("k", ("a", "b"), term), ("l", (), ONE))))
                self.is_names((kind, "x", (("k", ("a", "b"), ONE), ("l", (), term))))
                self.is_names(("let", "c", (kind, "x", (("k", ("a", "b"), ONE),)), term))

    def test_words_bound_twice(self):
        look = ("look", "x", (("k", ("a",), ONE),))
        self.is_held(look)
        self.is_names(("look", "x", (("k", ("a", "a"), ONE),)))
        self.is_names(("look", "x", (("k", ("x",), ONE),)))
        self.is_names(("look", "x", (("k", ("a",), ONE), ("l", ("a",), ONE))))
        for other in (look, ("open", "y", (("k", ("a",), ONE),)), ("let", "a", ONE, ONE)):
            for kind in ("keep", "loose"):
                self.is_held((kind, "x", other))
            self.is_names(("zero", "x", other, look))
            self.is_names(("let", "c", look, ("keep", "x", other)))
            self.is_names(("look", "x", (("k", ("a",), other),)))

    def test_cases_of_one_word(self):
        for kind in ("look", "open"):
            self.is_held((kind, "x", (("k", (), ONE), ("l", (), ONE))))
            self.is_names((kind, "x", (("k", (), ONE), ("k", (), ONE))))
            self.is_names((kind, "x", (("k", (), ONE), ("l", (), ONE), ("k", ("a",), ONE))))

    def test_asks(self):
        for term in (("keep", "x", ("ask", "f", ("x",))), ("keep", "x", ("ask", "g", ("x", "x", "x", "x")))):
            self.is_names(term)
        self.is_held(("keep", "x", ("ask", "f", ("x", "x", "x", "x"))))

    def test_errands_called_alike(self):
        self.told("names", (("f", (), (), ONE), ("f", ("x",), (True,), ONE)))

    def test_an_again_names_what_an_open_around_it_opened(self):
        again = ("again", "x", "w", ("y",))
        self.is_held(opened(again))
        for around in (
            ("let", "c", again, ONE), ("let", "c", ONE, again), ("zero", "y", ONE, again), ("keep", "y", again),
            ("loose", "y", again), ("look", "y", (("k", ("c",), again),)), ("open", "y", (("k", ("c",), again),)),
        ):
            self.is_held(opened(around))
        self.is_held(("open", "x", (("k", (), ONE), ("l", ("a",), again))))

    def test_an_again_within_two_opens(self):
        both = ("let", "d", ("again", "x", "w", ()), ("again", "y", "w", ()))
        self.is_held(opened(("open", "y", (("k", ("c",), both),))))
        self.is_held(opened(("open", "a", (("k", (), ("again", "a", "w", ("b",))),))))

    def test_an_again_whose_z_no_open_around_it_opened(self):
        for word in ("x", "y", "a", "nobody", "f", "w", "k"):
            self.is_names(("again", word, "w", ()))
        for word in ("y", "a", "b", "nobody", "f", "w", "k"):
            self.is_names(opened(("again", word, "w", ())))
        self.is_names(("let", "c", ONE, opened(("again", "c", "w", ()))))
        self.is_held(("let", "c", ONE, opened(("again", "c", "w", ()), "c")))

    def test_an_again_beside_an_open_and_not_in_its_case(self):
        again = ("again", "x", "w", ())
        self.is_names(("let", "c", opened(ONE), again))
        self.is_names(("let", "c", again, opened(ONE)))
        self.is_names(("zero", "y", opened(ONE), again))
        self.is_names(("open", "y", (("k", (), opened(ONE)), ("l", (), again))))

    def test_an_again_whose_z_was_only_looked_at(self):
        again = ("again", "x", "w", ())
        self.is_names(("look", "x", (("k", ("a",), again),)))
        self.is_names(("open", "y", (("k", (), ("look", "x", (("l", ("a",), again),))),)))
        self.is_names(("look", "x", (("k", ("a",), ("again", "a", "w", ())),)))
        self.is_held(("look", "x", (("l", ("c",), opened(again)),)))
        self.is_held(opened(("look", "x", (("l", ("c",), again),))))

    def test_an_open_of_another_errand(self):
        book = held_of(opened(ONE)) + (("g", ("x",), (False,), ("again", "x", "w", ())),)
        self.told("names", book)
        self.told("names", book[::-1])


class Sizes(Told):
    def test_two_hundred_and_two_hundred_and_one_terms(self):
        for many in (1, 41, 199, 200):
            self.assertEqual(len(all_places(held_of(fill(many)))), many)
            self.is_held(fill(many))
        for many in (201, 202, 1000):
            self.told("great", held_of(fill(many)))

    def test_terms_are_counted_by_errands(self):
        book = tuple((word, ("x",), (False,), fill(200)) for word in "fghkmn")
        self.told(None, book)
        self.told("great", book[:5] + (("n", ("x",), (False,), fill(201)),))
        self.told("great", (("f", ("x",), (False,), fill(201)),) + book[1:])

    def test_within_sixty_and_sixty_one_others(self):
        for kind in ("keep", "loose"):
            for within in (0, 13, 59, 60):
                self.is_held(chain(within, kind=kind))
            for within in (61, 62, 199):
                self.told("great", held_of(chain(within, kind=kind)))

    def test_within_others_by_each_part(self):
        for made in (
            lambda part: ("let", "a", part, ONE), lambda part: ("let", "a", ONE, part),
            lambda part: ("zero", "x", part, ONE), lambda part: ("zero", "x", ONE, part),
            lambda part: ("open", "x", (("k", (), ONE), ("l", (), part))),
            lambda part: ("look", "x", (("k", (), ONE), ("l", (), part))),
            lambda part: ("look", "x", (("k", (), part), ("l", (), ONE))),
        ):
            self.is_held(made(chain(59)))
            self.told("great", held_of(made(chain(60))))

    def test_shape_is_ahead_of_names_and_names_are_ahead_of_great(self):
        for great in (chain(61), fill(201)):
            self.told("great", held_of(great))
            self.is_names(("zero", "x", great, NO_NAME))
            self.is_shape(("zero", "x", great, NO_SHAPE))
            self.is_shape(("zero", "x", ("zero", "x", great, NO_NAME), NO_SHAPE))
        self.is_names(chain(61, NO_NAME))
        self.is_shape(chain(61, NO_SHAPE))
        self.is_shape(("let", "x", NO_NAME, NO_SHAPE))
        self.told("shape", held_of(NO_NAME) + (("g", ("x",), (), ONE),))
        self.told("names", held_of(chain(61)) + held_of(ONE))

    def test_terms_some_hundreds_within_one_another(self):
        self.told("great", held_of(chain(297)))
        self.is_names(chain(297, NO_NAME))
        self.is_shape(chain(297, NO_SHAPE))
        term = ("again", "x", "w", ())
        for _ in range(96):
            term = ("look", "x", (("k", (), term),))
        self.is_names(term)
        self.told("great", held_of(opened(term)))

    def test_things_of_many_terms(self):
        self.told("great", held_of(fill(4000)))
        self.is_names(("zero", "x", fill(4000), NO_NAME))
        self.is_shape(("zero", "x", fill(4000), NO_SHAPE))

    def test_places_of_what_is_no_held_book_but_for_its_size(self):
        held = held_of(chain(200, ("name", "x")))
        self.assertEqual(all_places(held), [("f",) + (0,) * within for within in range(201)])
        self.assertEqual(term_at(held, ("f",) + (0,) * 200), ("name", "x"))


class HandedIn(unittest.TestCase):
    def test_nothing_that_is_handed_in_is_changed(self):
        for thing in (
            [1, {"a": [2]}], (("f", ["x"], [True], {"keep": [ONE]}),), held_of(chain(61)),
            held_of(opened(("again", "x", "w", ("y",)))), held_of(ONE),
        ):
            before = copy.deepcopy(thing)
            why_no_held(thing)
            self.assertEqual(thing, before)

    def test_is_defined_in_its_file(self):
        self.assertEqual(helds.why_no_held.__module__, "sparecount.helds")


if __name__ == "__main__":
    unittest.main()
