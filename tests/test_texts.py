"""[21] Books as texts: how they are written, and which texts are read."""

import copy
import unittest

from chance import Maker
from sparecount import texts
from sparecount.books import LANGUAGE_WORDS, why_no_book
from sparecount.errors import NoBook, NoText
from sparecount.helds import why_no_held
from sparecount.lends import counted_by
from sparecount.places import in_place
from sparecount.texts import read_book, show_book, show_held
from written import held, plain

ONE = ("number", 1)

# Each form, by itself in an errand with x and y around.
FORMS = {
    "7": ("number", 7),
    "0": ("number", 0),
    "999": ("number", 999),
    "x": ("name", "x"),
    "x + y": ("plus", "x", "y"),
    "y + y": ("plus", "y", "y"),
    "x - y": ("less", "x", "y"),
    "box w()": ("box", "w", ()),
    "box w(x)": ("box", "w", ("x",)),
    "box w(x, y)": ("box", "w", ("x", "y")),
    "box w(y, x, y)": ("box", "w", ("y", "x", "y")),
    "f(x, y)": ("ask", "f", ("x", "y")),
    "none()": ("ask", "none", ()),
    "one(y)": ("ask", "one", ("y",)),
    "four(y, x, x, y)": ("ask", "four", ("y", "x", "x", "y")),
    "let z be x in y": ("let", "z", ("name", "x"), ("name", "y")),
    "let z be let a be 1 in a in z": ("let", "z", ("let", "a", ONE, ("name", "a")), ("name", "z")),
    "let z be 1 in let a be z in a": ("let", "z", ONE, ("let", "a", ("name", "z"), ("name", "a"))),
    "zero x {y} else {7}": ("zero", "x", ("name", "y"), ("number", 7)),
    "zero x {zero y {1} else {x}} else {let z be 1 in z}": (
        "zero", "x", ("zero", "y", ONE, ("name", "x")), ("let", "z", ONE, ("name", "z")),
    ),
    "open x {w: 1}": ("open", "x", (("w", (), ONE),)),
    "open x {w a: a}": ("open", "x", (("w", ("a",), ("name", "a")),)),
    "open x {w a b: a; v: y}": ("open", "x", (("w", ("a", "b"), ("name", "a")), ("v", (), ("name", "y")))),
    "open x {w a b c: a - c; v: y; u: 1; t d: open y {w: d}}": ("open", "x", (
        ("w", ("a", "b", "c"), ("less", "a", "c")), ("v", (), ("name", "y")), ("u", (), ONE),
        ("t", ("d",), ("open", "y", (("w", (), ("name", "d")),))),
    )),
    "box again(x)": ("box", "again", ("x",)),
    "again(x, y)": ("ask", "again", ("x", "y")),
    "let again be 1 in again": ("let", "again", ONE, ("name", "again")),
}
HELPERS = (
    ("none", (), ONE), ("one", ("a",), ONE), ("four", ("a", "b", "c", "d"), ONE), ("again", ("a", "b"), ONE),
)
HELPERS_TEXT = "\nnone = 1\none a = 1\nfour a b c d = 1\nagain a b = 1"

HELD_FORMS = {
    "keep x; y": ("keep", "x", ("name", "y")),
    "loose x; keep y; loose y; 1": ("loose", "x", ("keep", "y", ("loose", "y", ONE))),
    "look x {w: 1}": ("look", "x", (("w", (), ONE),)),
    "look x {w a b: a; v: keep y; y}": (
        "look", "x", (("w", ("a", "b"), ("name", "a")), ("v", (), ("keep", "y", ("name", "y")))),
    ),
    "open x {w a: again x v(a, y)}": ("open", "x", (("w", ("a",), ("again", "x", "v", ("a", "y"))),)),
    "open x {w: again x v()}": ("open", "x", (("w", (), ("again", "x", "v", ())),)),
    "let z be keep x; x in zero y {loose z; 1} else {2}": (
        "let", "z", ("keep", "x", ("name", "x")), ("zero", "y", ("loose", "z", ONE), ("number", 2)),
    ),
}


def within(many, last="1"):
    """The text of an errand with a term that stands within so many others, and its term."""
    text, term = last, ONE if last == "1" else ("name", last)
    for _ in range(many):
        text, term = "zero x {" + text + "} else {x}", ("zero", "x", term, ("name", "x"))
    return "f x = " + text, term


def text_within(many):
    """The text of such a term alone."""
    return within(many)[0][len("f x = "):]


class Interface(unittest.TestCase):
    def test_they_are_defined_in_their_file(self):
        for function in (texts.show_book, texts.show_held, texts.read_book):
            self.assertEqual(function.__module__, "sparecount.texts")

    def test_what_is_handed_in_stays(self):
        book = plain("f x = open x {w a: box w(a, x); v: 1}")
        told = counted_by(book, ((False,),))
        before = copy.deepcopy((book, told))
        show_book(book)
        show_held(told)
        self.assertEqual((book, told), before)

    def test_what_is_read_is_made_of_tuples(self):
        self.assertEqual(repr(read_book("f x = open x {w a: box w(a, x); v: f(x)}")), repr((
            ("f", ("x",), ("open", "x", (("w", ("a",), ("box", "w", ("a", "x"))), ("v", (), ("ask", "f",
            ("x",)))))),
        )))


class Written(unittest.TestCase):
    def test_each_form(self):
        for text, term in FORMS.items():
            with self.subTest(text=text):
                book = (("f", ("x", "y"), term),) + HELPERS
                self.assertIsNone(why_no_book(book))
                self.assertEqual(show_book(book), "f x y = " + text + HELPERS_TEXT)

    def test_errands(self):
        self.assertEqual(show_book((("f", (), ONE),)), "f = 1")
        self.assertEqual(show_book((("f", ("x",), ONE),)), "f x = 1")
        self.assertEqual(show_book((("g", ("d", "c", "b", "a"), ("name", "c")), ("f",
                         (), ONE))), "g d c b a = c\nf = 1")

    def test_each_plain_form_in_held_books(self):
        for text, term in FORMS.items():
            with self.subTest(text=text):
                book = tuple((word, names, (False,) * len(names), part) for word, names, part in (
                    ("f", ("x", "y"), term),) + HELPERS)
                self.assertEqual(show_held(book), "f x y = " + text + HELPERS_TEXT)

    def test_each_form_of_held_books_alone(self):
        for text, term in HELD_FORMS.items():
            with self.subTest(text=text):
                book = (("f", ("x", "y"), (False, False), term),)
                self.assertIsNone(why_no_held(book))
                self.assertEqual(show_held(book), "f x y = " + text)

    def test_lent_names(self):
        for lent, text in (
            ((True, False, False), "f &x y z = 1"), ((False, True, False), "f x &y z = 1"),
            ((False, False, True), "f x y &z = 1"), ((True, True, True), "f &x &y &z = 1"),
            ((False, False, False), "f x y z = 1"),
        ):
            self.assertEqual(show_held((("f", ("x", "y", "z"), lent, ONE),)), text)
        book = (("f", (), (), ONE), ("g", ("a",), (True,), ("look", "a", (("w", ("b",), ("plus", "b", "b")),))))
        self.assertEqual(show_held(book), "f = 1\ng &a = look a {w b: b + b}")

    def test_two_hundred_within_one_another(self):
        text, term = "x", ("name", "x")
        for _ in range(100):
            text, term = "keep x; loose x; " + text, ("keep", "x", ("loose", "x", term))
        self.assertEqual(show_held((("f", ("x",), (False,), term),)), "f x = " + text)

    def test_what_is_written_is_what_tests_read(self):
        for seed in range(60):
            maker = Maker(seed)
            book = maker.book()
            told = in_place(counted_by(book, maker.marks(book)))
            with self.subTest(seed=seed):
                self.assertEqual(plain(*show_book(book).split("\n")), book)
                self.assertEqual(held(*show_held(told).split("\n")), told)


class Read(unittest.TestCase):
    def test_each_form(self):
        for text, term in FORMS.items():
            with self.subTest(text=text):
                self.assertEqual(read_book("f x y = " + text + HELPERS_TEXT), (("f", ("x", "y"), term),) + HELPERS)

    def test_errands(self):
        self.assertEqual(read_book("f = 1"), (("f", (), ONE),))
        self.assertEqual(read_book("g d c b a = c\nf = 1\nh x = x"), (
            ("g", ("d", "c", "b", "a"), ("name", "c")), ("f", (), ONE), ("h", ("x",), ("name", "x")),
        ))
        self.assertEqual(read_book("abcdefgh z = abcdefgh(z)"), (("abcdefgh", ("z",), ("ask", "abcdefgh",
                         ("z",))),))

    def test_what_is_written_is_read_back(self):
        for seed in range(150):
            book = Maker(seed).book()
            with self.subTest(seed=seed):
                if why_no_book(book) is None:
                    self.assertEqual(read_book(show_book(book)), book)
                else:
                    with self.assertRaises(NoBook) as caught:
                        read_book(show_book(book))
                    self.assertEqual(caught.exception.fault, "great")


class NotRead(unittest.TestCase):
    def refused(self, *wrong):
        for text in wrong:
            with self.subTest(text=text[:80]), self.assertRaises(NoText):
                read_book(text)

    def terms_refused(self, *wrong):
        self.refused(*["f x y = " + text + HELPERS_TEXT for text in wrong])

    def test_no_errand(self):
        self.refused("", " ", "f", "f x", "=", "= 1", " = 1", "f =", "f = ", "f x = ", "f x 1", "1", "f(x) = 1")

    def test_line_ends(self):
        self.refused(
            "f = 1\n", "\nf = 1", "f = 1\n\ng = 1", "f =\n1", "f = 1 \ng = 1", "f = 1\n g = 1", "\n", "f\n= 1",
            "f x = zero x {1}\nelse {2}", "f = 1\r\ng = 1", "f = 1; g = 1", "f = 1 g = 1",
        )

    def test_blanks_of_errands(self):
        self.refused(
            " f = 1", "f  = 1", "f =  1", "f = 1 ", "f= 1", "f =1", "f=1", "f  x = x", "f x  = x", "f x  y = x",
            "f x\ty = x", "f x, y = x",
        )

    def test_blanks_within_terms(self):
        for text in FORMS:
            for at, sign in enumerate(text):
                if sign == " ":
                    self.terms_refused(text[:at] + "  " + text[at + 1:])
                if sign in " (){}:;,+-":
                    self.terms_refused(text[:at] + " " + text[at:])
                if sign in "(){}:;,+-":
                    self.terms_refused(text[:at + 1] + "  " + text[at + 1:])

    def test_blanks_left_out(self):
        self.terms_refused(
            "x +y", "x+ y", "x+y", "x- y", "x -y", "box w(x,y)", "f(x,y)", "letz be x in y", "let z bex in y",
            "let z be xin y", "let z be x iny", "zerox {1} else {2}", "zero x{1} else {2}", "zero x {1}else {2}",
            "zero x {1} else{2}", "openx {w: 1}", "open x{w: 1}", "open x {w:1}", "open x {w: 1;v: 2}",
        )

    def test_each_sign_left_out_or_told_twice(self):
        for text in FORMS:
            for at, sign in enumerate(text):
                # Without a blank two words may well be one.
                if not sign.isalnum() and not (sign == " " and text[at - 1].isalpha() and text[at + 1].isalpha()):
                    self.terms_refused(text[:at] + text[at + 1:])
                if not sign.isalnum():
                    self.terms_refused(text[:at] + sign + text[at:])

    def test_words_left_out(self):
        self.terms_refused(
            "x +", "+ y", "+", "-", "x -", "box", "box w", "box (x)", "box w(", "box w(x", "box w(x,", "box w(x, ",
            "box w(x, )", "box w(, x)", "box w(,)", "box w( )", "(x)", "()", "f(", "f(x", "f(x, y", "f(,)", "let",
            "let z", "let z be", "let z be 1", "let z be 1 in", "let z be 1 in ", "let z in 1", "let be 1 in 2",
            "z be 1 in 2", "let z 1 in 2", "let z be in 2", "let z be 1 2", "zero", "zero x", "zero x {",
            "zero x {1", "zero x {1}", "zero x {1} else", "zero x {1} else {", "zero x {1} else {2",
            "zero {1} else {2}", "zero x {1} {2}", "zero x else {2}", "zero x {} else {2}", "zero x {1} else {}",
            "open", "open x", "open x {", "open x {}", "open x {w", "open x {w:", "open x {w: ", "open x {w: 1",
            "open x {w: 1;", "open x {w: 1; ", "open x {w: 1; }", "open x {: 1}", "open x {1}", "open x {w: }",
            "open x {w 1}", "open {w: 1}", "open x {; w: 1}", "open x {w: 1}; v: 2}", "",
        )

    def test_words_told_twice(self):
        self.terms_refused(
            "x x", "1 1", "x + + y", "x + y + x", "x - y - x", "x + y y", "box box w(x)", "box w w(x)",
            "box w(x x)", "box w(x)(x)", "f f(x, y)", "f(x, y)(x)", "f(x, y) y", "let let z be 1 in z",
            "let z z be 1 in z", "let z be be 1 in z", "let z be 1 1 in z", "let z be 1 in in z",
            "zero zero x {1} else {2}", "zero x x {1} else {2}", "zero x {1} {1} else {2}",
            "zero x {1} else else {2}", "zero x {1} else {2} else {3}", "open open x {w: 1}", "open x x {w: 1}",
            "open x {w: 1} {w: 1}", "open x {w:: 1}", "open x {w: v: 1}", "open x {w: 1;; v: 2}",
        )

    def test_terms_where_words_stand(self):
        self.terms_refused(
            "1 + 2", "x + 1", "1 + x", "box w(1)", "box w(f(x))", "f(1, 2)", "zero 1 {1} else {2}", "open 1 {w: 1}",
            "let 1 be 2 in 3", "open x {1: 2}", "open x {w 1: 2}", "box 1(x)", "1(x)", "open box w(x) {w: 1}",
            "{x}", "{1}", "box w(box v())",
        )

    def test_words_of_the_language_are_no_names(self):
        for word in LANGUAGE_WORDS:
            self.terms_refused(
                word, word + " + x", "x - " + word, word + "(x)", "box " + word + "(x)", "box w(" + word + ")",
                "let " + word + " be 1 in 2", "zero " + word + " {1} else {2}", "open " + word + " {w: 1}",
                "open x {" + word + ": 1}", "open x {w " + word + ": 1}", "f(x, " + word + ")",
            )
            self.refused(word + " = 1", "f " + word + " = 1")

    def test_numbers_with_a_nought_ahead(self):
        self.terms_refused(
            "00", "01", "007", "000", "0999", "-1", "+1", "1.0", "1 000", "0x1", "1x", "x1", "1e", "0" * 9000,
        )

    def test_signs_of_all_sorts(self):
        for sign in [chr(number) for number in range(32, 127) if chr(number) not in "%"] + ["\n", "\t", "\r"]:
            if not sign.isalnum():
                self.refused(
                    "f x = " + sign, "f x = x" + sign, "f x = " + sign + "x", "f x" + sign + " = x",
                    sign + "f x = x", "f" + sign + "x = f(x)" if sign != " " else "f x == 1",
                )
            elif not sign.islower():
                self.refused("f x = x" + sign, "f" + sign + " x = x", "f x" + sign + " = 1")
        self.refused("F x = x", "f X = X", "f x = Box w(x)", "f x = X", "f x_y = x_y", "f x = x'")

    def test_held_books(self):
        self.refused(
            "f &x = x", "f x = keep x; x", "f x = loose x; 1", "f x = look x {w: 1}",
            "f x = open x {w a: again x w(a)}", "f x = let y be keep x; 1 in y", "f x &y = x",
        )
        for text, _ in HELD_FORMS.items():
            self.terms_refused(text)


class NotSoMade(unittest.TestCase):
    """Texts that only something of another shape than 4 tells would be written as."""

    # Texts of the most that 4 tells, and what at their {} is a figure, letter, word, case or errand too many.
    ONE_MORE = (
        ("f = 999{}", "0"), ("f x = let y be 100{} in y", "1"), ("f x = zero x {{1}} else {{888{}}}", "8"),
        ("abcdefgh{} = 1", "i"), ("f abcdefgh{} = 1", "i"), ("f x = abcdefgh{}()\nabcdefgh = 1", "i"),
        ("f x = box abcdefgh{}(x)", "i"), ("f x = let abcdefgh{} be 1 in 2", "i"),
        ("f x = open x {{abcdefgh{}: 1}}", "i"), ("f x = open x {{w abcdefgh{}: 1}}", "i"),
        ("f a b c d{} = 1", " e"), ("f x = box w(x, x, x{})", ", x"), ("f x = g(x, x, x, x{})\ng a b c d = 1", ", x"),
        ("f x = open x {{w a b c{}: 1}}", " d"), ("f x = open x {{w: 1; v a b c{}: 1}}", " d"),
        ("f x = open x {{a: 1; b: 2; c: 3; d: 4{}}}", "; e: 5"),
        ("f x = let y be open x {{a: 1; b: 2; c: 3; d: 4{}}} in y", "; e: 5"),
        ("a = 1\nb = 1\nc = 1\nd = 1\ne = 1\nf = 1{}", "\ng = 1"),
    )

    def test_the_most_and_one_more(self):
        for text, more in self.ONE_MORE:
            with self.subTest(text=text):
                self.assertEqual(show_book(read_book(text.format(""))), text.format(""))
                with self.assertRaises(NoText):
                    read_book(text.format(more))

    def test_what_is_written_of_another_shape(self):
        w, x = ("w", "v", "u", "t", "s"), ("name", "x")
        for term in (
            ("number", 1000), ("number", -1), ("name", "abcdefghi"), ("name", "keep"), ("name", ""),
            ("plus", "x", "abcdefghi"), ("less", "X", "x"), ("box", "w", ("x",) * 4), ("box", "abcdefghi", ()),
            ("ask", "f", ("x",) * 5), ("let", "in", ONE, ONE), ("zero", "y" * 9, ONE, ONE), ("open", "x", ()),
            ("open", "x", tuple((word, (), ONE) for word in w)), ("open", "x", (("w", w[:4], ONE),)),
            ("open", "x", (("w", w[:3], ("number", 1000)),)),
        ):
            for around in (term, ("let", "y", term, x), ("let", "y", x, term), ("zero", "x", ONE, term)):
                book = (("f", ("x",), around),)
                with self.subTest(term=around), self.assertRaises(NoText):
                    self.assertEqual(why_no_book(book), "shape")
                    read_book(show_book(book))


class Sizes(unittest.TestCase):
    """Texts of great and of endless terms."""

    def fault(self, text):
        with self.assertRaises((NoText, NoBook)) as caught:
            read_book(text)
        return getattr(caught.exception, "fault", "text")

    def test_within_ninety_others_and_one_more(self):
        for last in ("1", "x"):
            self.assertEqual(self.fault(within(90, last)[0]), "great")
            self.assertEqual(self.fault(within(91, last)[0]), "text")
        for many, fault in ((89, "great"), (90, "great"), (91, "text"), (92, "text")):
            words = ["v" + one + other for one in "abcdefghij" for other in "abcdefghij"][:many]
            lets = "".join("let " + word + " be 1 in " for word in words)
            self.assertEqual(self.fault("f = " + lets + "1"), fault)
            backs = "".join("let " + word + " be " for word in words) + "1" + " in 2" * many
            self.assertEqual(self.fault("f = " + backs), fault)
            opens = "".join("open x {w " + word + ": " for word in words) + "x" + "}" * many
            self.assertEqual(self.fault("f x = " + opens), fault)

    def test_the_depth_is_that_of_each_term(self):
        text = within(90)[0]
        self.assertEqual(self.fault(text + "\n" + text.replace("f", "g", 1)), "great")
        less = text_within(89)
        self.assertEqual(self.fault("f x = zero x {" + less + "} else {" + less + "}"), "great")
        self.assertEqual(self.fault("f x = zero x {1} else {" + text_within(90) + "}"), "text")
        self.assertEqual(self.fault("f x = let y be " + text_within(90) + " in y"), "text")
        self.assertEqual(self.fault("f x = open x {w: 1; v: " + text_within(90) + "}"), "text")

    def test_within_twelve_others_and_one_more(self):
        self.assertEqual(read_book(within(12)[0]), (("f", ("x",), within(12)[1]),))
        self.assertEqual(self.fault(within(13)[0]), "great")

    def test_many_figures(self):
        for many in (4, 5, 899, 1000, 4301, 14000):
            self.assertEqual(self.fault("f = " + "9" * many), "text")
            self.assertEqual(self.fault("f = " + "1" + "0" * (many - 1)), "text")
            self.assertEqual(self.fault("f = " + "0" * many), "text")
            self.assertEqual(self.fault("f = " + "7" * many + "x"), "text")
        self.assertEqual(read_book("f = 999"), (("f", (), ("number", 999)),))

    def test_many_letters(self):
        for many in (9, 10, 14000):
            word = "a" * many
            for text in (
                "{} = 1", "f {} = 1", "f = box {}()", "f = {}()", "f x = {}", "f = let {} be 1 in 2", "f x = x + {}",
                "f x = open x {{{}: 1}}", "f x = open x {{w {}: 1}}", "f x = zero {} {{1}} else {{2}}",
            ):
                self.assertEqual(self.fault(text.format(word)), "text")

    def test_thousands_of_brackets_and_words_that_open(self):
        for text in (
            "(" * 14000, "f(" * 7000, "box w(" * 2000, "{" * 14000, "let x be " * 1600, "zero x {" * 1800,
            "open x {w: " * 1300, "open x {" * 1800, "open " * 2900, "let " * 3500, "box " * 3500, "zero " * 2900,
            "let x be 1 in " * 1000, "zero x {1} else {" * 880, "open x {w: 1; v: " * 930, "f x = " * 2400, "= " * 7000,
            "let x be let " * 1000, "x + " * 3500, "x" + ")" * 14000, "x" + "}" * 14000, "x" + " in x" * 2800,
            "box w(" + "x, " * 4000, "f(" + "x, " * 4000,
        ):
            for last in ("", "1", "x"):
                self.assertEqual(self.fault("f x = " + text + last), "text")
        self.assertEqual(self.fault("let x be " * 1600), "text")

    def test_thousands_of_words_and_errands(self):
        self.assertEqual(self.fault("f" + " x" * 7000 + " = 1"), "text")
        self.assertEqual(self.fault("f x = f(" + "x, " * 4500 + "x)"), "text")
        self.assertEqual(self.fault("f x = box w(" + "x, " * 4500 + "x)"), "text")
        self.assertEqual(self.fault("f x = open x {" + "w: 1; " * 2000 + "w: 1}"), "text")
        self.assertEqual(self.fault("\n".join(["f = 1"] * 2400)), "text")
        self.assertEqual(self.fault("\n" * 14000), "text")


class NoBooks(unittest.TestCase):
    def told(self, fault, *wrong):
        for text in wrong:
            with self.subTest(text=text), self.assertRaises(NoBook) as caught:
                read_book(text)
            self.assertEqual(caught.exception.fault, fault)

    def test_names(self):
        self.told(
            "names", "f = x", "f x x = 1", "f x = let x be 1 in x", "f = f(x)", "f x = g(x)", "f x = f(x, x)",
            "f = 1\nf = 2", "f x = open x {w: 1; w a: 2}", "f x = open x {w a a: 1}", "f = box w(x)",
            "f = zero x {1} else {2}", "f = open f {w: 1}", "f = let x be x in x", "f x = x + y",
        )

    def test_great(self):
        self.told(
            "great", within(13)[0], "f x = " + "zero x {" * 20 + "1" + "} else {2}" * 20,
        )
        self.told("great", "f x = open x {a: " + "zero x {1} else {" * 10 + "1" + "}" * 10 + "; b: "
                  + "zero x {1} else {" * 10 + "1" + "}" * 10 + "}")

    def test_no_text_is_ahead_of_no_book(self):
        great = within(13)[0]
        for text in (
            "f = x ", "f x x = X", "f = y\ng = ", "f x x = 1\ng = 1000", "g = 1000\nf x x = 1", "f x x = 1000",
            "f x = box w(y, x, x, x)", "f = 1\nf = abcdefghi()", "f x = open x {w: 1; w: 1000}",
            great + "\ng = 1000", "g a b c d e = 1\n" + great, great.replace("1", "1000"), great + "\n",
        ):
            with self.subTest(text=text), self.assertRaises(NoText):
                read_book(text)


if __name__ == "__main__":
    unittest.main()
