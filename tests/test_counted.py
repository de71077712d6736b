"""[15] Counted books: where just the keeps and looses stand, and what they look at."""

import copy
import unittest

from sparecount import counted as counted_file
from sparecount.books import why_no_book
from sparecount.counted import counted
from sparecount.even import uneven_at
from sparecount.helds import why_no_held
from written import held, plain

# Errands that are asked by those that are counted, and themselves counted.
ASKED = (
    ("give a = a", "give a = a"),
    ("hide = box w()", "hide = box w()"),
    ("count a = 1", "count a = loose a; 1"),
    ("both a b = box w(a, b)", "both a b = box w(a, b)"),
    ("four a b c d = 1", "four a b c d = loose a; loose b; loose c; loose d; 1"),
)


class Told(unittest.TestCase):
    def said(self, line, told):
        """What an errand f becomes, beside those that it asks."""
        asked = [pair for pair in ASKED if pair[0].split()[0] + "(" in line]
        book = plain(line, *[pair[0] for pair in asked])
        with self.subTest(line=line):
            self.assertIsNone(why_no_book(book))
            self.assertEqual(counted(book), held(told, *[pair[1] for pair in asked]))
            self.assertIsNone(why_no_held(counted(book)))
            self.assertIsNone(uneven_at(counted(book)))

    def stays(self, *lines):
        for line in lines:
            self.said(line, line)


class Interface(unittest.TestCase):
    def test_it_is_defined_in_its_file(self):
        self.assertEqual(counted_file.counted.__module__, "sparecount.counted")

    def test_what_is_handed_in_stays(self):
        book = plain("f x = let y be x in box w(x, y)", "g a b = a")
        before = copy.deepcopy(book)
        counted(book)
        self.assertEqual(book, before)

    def test_nothing_is_lent(self):
        told = counted(plain("f x y z a = g(x)", "g b = open b {w: 1}", "h = 1"))
        self.assertEqual([errand[2] for errand in told], [(False,) * 4, (False,), ()])

    def test_it_is_made_of_tuples(self):
        told = counted(plain("f x = open x {w y z: box w(y, y); v: let n be f(x) in n}"))
        todo = [told]
        while todo:
            part = todo.pop()
            self.assertIn(type(part), (tuple, str, bool))
            todo.extend(part if type(part) is tuple else ())


class LoosedAhead(Told):
    """Each owned name that a term doesn't name is loosed ahead of it, in the order in which they were bound."""

    def test_of_terms_that_name_nothing(self):
        self.said("f x = 1", "f x = loose x; 1")
        self.said("f x y z = 0", "f x y z = loose x; loose y; loose z; 0")
        self.said("f z y x = box w()", "f z y x = loose z; loose y; loose x; box w()")
        self.said("f x = hide()", "f x = loose x; hide()")

    def test_of_terms_that_name_others(self):
        self.said("f x y z = y", "f x y z = loose x; loose z; y")
        self.said("f x y z = x + z", "f x y z = loose y; x + z")
        self.said("f x y z = y - y", "f x y z = loose x; loose z; y - y")
        self.said("f x y = box w(y)", "f x y = loose x; box w(y)")
        self.said("f x y = give(x)", "f x y = loose y; give(x)")
        self.said("f x y z = zero y {x} else {x}", "f x y z = loose z; zero y {x} else {x}")
        self.said("f x y z = open y {w: x}", "f x y z = loose z; open y {w: x}")
        self.said("f x y z = let a be x in a", "f x y z = loose y; loose z; let a be x in a")

    def test_named_in_a_part_is_named(self):
        self.stays("f x = let a be 1 in let b be 2 in x")
        self.said("f x y = zero y {x} else {1}", "f x y = zero y {x} else {loose x; 1}")
        self.said(
            "f x y = open y {w: x; v a: a; u b c: x; t: 1}",
            "f x y = open y {w: x; v a: loose x; a; u b c: loose b; loose c; x; t: loose x; 1}",
        )

    def test_in_the_order_in_which_they_were_bound(self):
        self.said(
            "f x y = let b be hide() in let a be hide() in open a {w d c: 1; v: y}",
            "f x y = loose x; let b be hide() in loose b; let a be hide() in open a "
            "{w d c: loose y; loose d; loose c; 1; v: y}",
        )
        self.said(
            "f x y = let b be hide() in let a be hide() in zero y {box w(x, b, a)} else {1}",
            "f x y = let b be hide() in let a be hide() in zero y {box w(x, b, a)} else {loose x; loose b; loose a; 1}",
        )

    def test_ahead_of_what_is_kept(self):
        self.said("f y x z = box w(x, x)", "f y x z = loose y; loose z; keep x; box w(x, x)")
        self.said("f y x z = open x {w: x}", "f y x z = loose y; loose z; keep x; open x {w: x}")


class Words(Told):
    """Names, boxes and asks: what is owned serves once, each other time is kept for."""

    def test_names(self):
        self.stays("f x = x")
        self.said("f x = let a be x in box w(a, x)", "f x = let a be keep x; x in box w(a, x)")

    def test_boxes(self):
        self.stays("f x = box w(x)", "f x y z = box w(y, z, x)", "f = box w()")
        self.said("f x = box w(x, x)", "f x = keep x; box w(x, x)")
        self.said("f x = box w(x, x, x)", "f x = keep x; keep x; box w(x, x, x)")
        self.said("f x y = box w(x, y, x)", "f x y = keep x; box w(x, y, x)")

    def test_asks(self):
        self.stays("f x = give(x)", "f x y = both(y, x)", "f = hide()", "f x y z a = four(y, a, x, z)")
        self.said("f x = both(x, x)", "f x = keep x; both(x, x)")
        self.said("f x = four(x, x, x, x)", "f x = keep x; keep x; keep x; four(x, x, x, x)")

    def test_keeps_stand_in_the_order_in_which_words_first_stand_there(self):
        self.said("f x y = four(y, x, x, y)", "f x y = keep y; keep x; four(y, x, x, y)")
        self.said("f x y = four(y, x, y, y)", "f x y = keep y; keep y; four(y, x, y, y)")
        self.said(
            "f x y = let a be box w(y, x, y) in box w(a, x, y)",
            "f x y = let a be keep y; keep y; keep x; box w(y, x, y) in box w(a, x, y)",
        )

    def test_borrowed_words_are_kept_each_time(self):
        self.said(
            "f x = let a be box w(x, x, x) in box w(a, x)",
            "f x = let a be keep x; keep x; keep x; box w(x, x, x) in box w(a, x)",
        )
        self.said("f x = let a be give(x) in box w(a, x)", "f x = let a be keep x; give(x) in box w(a, x)")

    def test_owned_and_borrowed_words_beside_one_another(self):
        self.said(
            "f x y = let a be box w(y, x, y) in x",
            "f x y = let a be keep y; keep x; box w(y, x, y) in loose a; x",
        )
        self.said(
            "f x y = let a be box w(x, y, x) in x",
            "f x y = let a be keep x; keep x; box w(x, y, x) in loose a; x",
        )
        self.said("f x y = let a be both(y, x) in x", "f x y = let a be keep x; both(y, x) in loose a; x")


class Lets(Told):
    """T owns what U doesn't name, and borrows the rest; U owns that, and what is bound."""

    def test_what_is_named_in_the_first_part_alone(self):
        self.stays("f x = let a be x in a", "f x y = let a be box w(x) in box w(a, y)")
        self.said(
            "f x y = let a be zero y {x} else {y} in box w(a, y)",
            "f x y = let a be zero y {x} else {loose x; y} in box w(a, y)",
        )

    def test_what_is_named_in_the_second_part_alone(self):
        self.stays("f x = let a be hide() in box w(a, x)", "f x y = let a be y in box w(a, x)")

    def test_what_is_named_in_both(self):
        self.said("f x = let a be open x {w b: b} in x", "f x = let a be look x {w b: keep b; b} in loose a; x")
        self.said(
            "f x y = let a be zero y {1} else {let b be x in box w(b, x)} in box w(a, x)",
            "f x y = let a be zero y {1} else {let b be keep x; x in keep x; box w(b, x)} in box w(a, x)",
        )

    def test_what_is_named_in_neither(self):
        self.said("f x = let a be hide() in a", "f x = loose x; let a be hide() in a")
        self.said("f x = let a be hide() in 1", "f x = loose x; let a be hide() in loose a; 1")

    def test_a_let_within_the_first_part(self):
        self.said(
            "f x y z = let a be let b be box w(x, y) in box v(b, y, z) in box w(a, z)",
            "f x y z = let a be let b be keep y; box w(x, y) in keep z; box v(b, y, z) in box w(a, z)",
        )

    def test_what_is_bound_last_is_loosed_last(self):
        self.said(
            "f x = let a be hide() in let b be hide() in zero x {a} else {let c be hide() in b}",
            "f x = let a be hide() in let b be hide() in zero x {loose b; a} else "
            "{loose a; let c be hide() in loose c; b}",
        )


class Opens(Told):
    """Owned, owned and named still, borrowed, or shown a number."""

    def test_owned_and_named_in_no_case(self):
        self.stays("f x = open x {w a b: box w(b, a); v: 1}")
        self.said(
            "f x y = open x {w a b: b; v c: box w(c, c); u: y; t: 1}",
            "f x y = open x {w a b: loose y; loose a; b; v c: loose y; keep c; box w(c, c); u: y; t: loose y; 1}",
        )

    def test_owned_and_named_in_some_case(self):
        self.said(
            "f x = open x {w a: box w(a, x); v b: b; u: x; t: 1}",
            "f x = keep x; open x {w a: box w(a, x); v b: loose x; b; u: x; t: loose x; 1}",
        )
        self.said(
            "f y x z = open x {w a b: 1; v: box w(z, x, y)}",
            "f y x z = keep x; open x {w a b: loose y; loose x; loose z; loose a; loose b; 1; v: box w(z, x, y)}",
        )
        self.said(
            "f x = open x {w a: open x {v b: box w(a, b)}}",
            "f x = keep x; open x {w a: open x {v b: box w(a, b)}}",
        )

    def test_borrowed(self):
        self.said(
            "f x = let a be open x {w b c: box w(c, c, b); v: x} in box w(a, x)",
            "f x = let a be look x {w b c: keep c; keep c; keep b; box w(c, c, b); v: keep x; x} in box w(a, x)",
        )
        self.said(
            "f x = let a be open x {w b: open b {v c: c; u: hide()}} in box w(a, x)",
            "f x = let a be look x {w b: look b {v c: keep c; c; u: hide()}} in box w(a, x)",
        )
        self.said(
            "f x y = let a be open x {w b: y; v: 1} in box w(a, x)",
            "f x y = let a be look x {w b: y; v: loose y; 1} in box w(a, x)",
        )

    def test_words_of_what_is_borrowed_are_not_loosed(self):
        self.said(
            "f x = let a be open x {w b c: 1; v d: d} in box w(a, x)",
            "f x = let a be look x {w b c: 1; v d: keep d; d} in box w(a, x)",
        )

    def test_shown_a_number(self):
        self.said(
            "f x = zero x {open x {w a b: a}} else {open x {v c: x; u: 1}}",
            "f x = zero x {open x {w a b: loose b; a}} else {open x {v c: loose c; x; u: 1}}",
        )
        self.said(
            "f x = let n be 1 in open n {w a: box w(a, x, n)}",
            "f x = let n be 1 in open n {w a: box w(a, x, n)}",
        )


class Zeros(Told):
    def test_both_parts_own_what_is_owned(self):
        self.stays("f x n = zero n {x} else {box w(x)}")
        self.said("f x y n = zero n {x} else {y}", "f x y n = zero n {loose y; x} else {loose x; y}")
        self.said(
            "f x y n = let a be zero n {x} else {y} in box w(a, y)",
            "f x y n = let a be zero n {x} else {loose x; keep y; y} in box w(a, y)",
        )


class Numbers(Told):
    """What is shown a number is neither owned nor borrowed, neither kept nor loosed."""

    def test_bound_to_what_surely_gives_one(self):
        self.stays(
            "f = let a be 1 in 2", "f = let a be 1 in box w(a, a, a)", "f = let a be 1 in let b be a in a",
            "f x y = let a be x + y in 1", "f x = let a be count(x) in box w(a, a)",
            "f = let a be let b be 1 in b in hide()",
        )
        self.said("f x = let a be give(x) in 1", "f x = let a be give(x) in loose a; 1")
        self.said("f x = let a be give(x) in box w(a, a)", "f x = let a be give(x) in keep a; box w(a, a)")

    def test_at_an_end_its_own_plus(self):
        self.stays("f x y = x + y", "f x = x - x", "f x = open x {w a b: a + b}")

    def test_on_every_way(self):
        self.stays(
            "f x y = let a be x + y in box w(x, y, x)", "f x n = let a be zero n {x + x} else {n - x} in box w(x, x)",
            "f x = zero x {box w(x, x)} else {1}", "f x = let a be zero x {1} else {x} in box w(x, a)",
            "f x n = let a be zero n {zero x {1} else {2}} else {x - x} in 3",
        )

    def test_on_one_way_only(self):
        self.said(
            "f x n = let a be zero n {x + x} else {1} in box w(x, x)",
            "f x n = let a be zero n {x + x} else {1} in keep x; box w(x, x)",
        )
        self.said(
            "f x n = let a be zero n {x + x} else {1} in 2",
            "f x n = let a be zero n {x + x} else {loose x; 1} in 2",
        )
        self.said(
            "f x n = let a be zero n {zero x {x} else {x}} else {x} in box w(a, x)",
            "f x n = let a be zero n {zero x {x} else {x}} else {keep x; x} in box w(a, x)",
        )

    def test_on_the_way_before_it_is_owned_still(self):
        self.said(
            "f x n = zero n {zero x {x} else {1}} else {box w(x, x)}",
            "f x n = zero n {zero x {x} else {1}} else {keep x; box w(x, x)}",
        )
        self.said("f x = let a be box w(x, x) in zero x {a} else {2}",
                  "f x = let a be keep x; keep x; box w(x, x) in zero x {a} else {loose a; 2}")

    def counts(self, lines, told):
        """What a book of errands that ask one another becomes."""
        self.assertEqual(counted(plain(*lines)), held(*told))

    def test_by_the_list_of_the_book_itself(self):
        self.counts(
            ("f x = let a be g(x) in 1", "g x = zero x {1} else {f(x)}"),
            ("f x = let a be g(x) in 1", "g x = zero x {1} else {f(x)}"),
        )
        self.counts(
            ("f x = let a be g(x) in 1", "g x = zero x {h()} else {f(x)}", "h = box w()"),
            ("f x = let a be g(x) in loose a; 1", "g x = zero x {h()} else {f(x)}", "h = box w()"),
        )


class Sizes(Told):
    def test_as_great_as_books_may_be(self):
        lets = ["let " + word + " be hide() in " for word in "abcdefghijkl"]
        looses = ["loose " + word + "; " for word in "abcdefghijkl"]
        self.said(
            "f x = " + "".join(lets) + "x",
            "f x = " + "".join(let + loose for let, loose in zip(lets, looses)) + "x",
        )

    def test_somewhat_beyond(self):
        term = ("name", "x")
        for _ in range(400):
            term = ("zero", "x", term, ("number", 1))
        self.assertEqual(counted((("f", ("x",), term),)), (("f", ("x",), (False,), term),))


if __name__ == "__main__":
    unittest.main()
