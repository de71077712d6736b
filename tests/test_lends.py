"""[17] Books counted by marks, and [18] which names may be lent."""

import copy
import unittest

from sparecount import lends
from sparecount.books import why_no_book
from sparecount.counted import counted
from sparecount.counting import letters_for
from sparecount.even import uneven_at
from sparecount.helds import why_no_held
from sparecount.lends import counted_by, lendable
from written import held, plain


def unmarked(line):
    """A line of a held book as one of a plain book."""
    return line.replace("&", "")


# Errands that are asked by those that are counted: as they stand in the plain
# book, and as they are counted with the names lent that are marked here.
ASKED = (
    ("give a = a", "give a = a"),
    ("hide = box w()", "hide = box w()"),
    ("peek &a = 1", "peek &a = 1"),
    ("late a &b = a", "late a &b = a"),
    ("early &a b = b", "early &a b = b"),
    ("mixed &a b &c d = box w(b, d)", "mixed &a b &c d = box w(b, d)"),
    ("none &a &b = box w()", "none &a &b = box w()"),
)


class Counted(unittest.TestCase):
    def counts(self, lines, told):
        """What a book becomes whose lent names are marked in these lines."""
        with self.subTest(lines=lines):
            book = plain(*[unmarked(line) for line in lines])
            marks = tuple(errand[2] for errand in held(*lines))
            self.assertIsNone(why_no_book(book))
            self.assertEqual(counted_by(book, marks), held(*told))
            self.assertIsNone(why_no_held(counted_by(book, marks)))
            self.assertIsNone(uneven_at(counted_by(book, marks)))

    def said(self, line, told):
        """What an errand f becomes, beside those that it asks; what is lent of it is marked."""
        asked = [pair for pair in ASKED if pair[0].split()[0] + "(" in line]
        self.counts([line] + [pair[0] for pair in asked], [told] + [pair[1] for pair in asked])

    def stays(self, *lines):
        for line in lines:
            self.said(line, line)


class Interface(unittest.TestCase):
    def test_they_are_defined_in_their_file(self):
        for function in (lends.counted_by, lends.lendable):
            self.assertEqual(function.__module__, "sparecount.lends")

    def test_what_is_handed_in_stays(self):
        book = plain("f x = g(x, x)", "g a b = let c be g(a, b) in b")
        marks = ((False,), (True, False))
        before = copy.deepcopy((book, marks))
        counted_by(book, marks)
        lendable(book)
        self.assertEqual((book, marks), before)

    def test_what_is_told_is_new(self):
        book = plain("f x = x")
        _, taken = lendable(book)
        taken.clear()
        self.assertEqual(lendable(book), (((False,),), {("f", "x"): ("f",)}))
        self.assertIsNot(lendable(book)[1], lendable(book)[1])

    def test_what_sorts_of_things_are_told(self):
        marks, taken = lendable(plain("f x y = x", "g = 1"))
        self.assertEqual((marks, taken), (((False, True), ()), {("f", "x"): ("f",)}))
        self.assertEqual([type(truth) for truth in marks[0]], [bool, bool])
        self.assertEqual((type(marks), type(marks[0]), type(taken)), (tuple, tuple, dict))


class NothingLent(Counted):
    def test_it_is_the_book_counted(self):
        for lines in (
            ["f x = box w(x, x)"], ["f x y = let a be f(x, x) in box w(a, x, y)", "g = 1"],
            ["f x = open x {w a: f(x); v b c: b}", "g x y = f(y)"],
        ):
            book = plain(*lines)
            marks = tuple((False,) * len(errand[1]) for errand in book)
            self.assertEqual(counted_by(book, marks), counted(book))


class LentNames(Counted):
    """Lent names are borrowed in their own errand."""

    def test_marks_stand_at_their_names(self):
        self.stays("f &x = 1", "f &x &y = x + y", "f = 1", "f &x y &z = y", "f x &y &z = box w(x)")

    def test_names_and_boxes_keep_them(self):
        self.said("f &x = x", "f &x = keep x; x")
        self.said("f &x = box w(x, x)", "f &x = keep x; keep x; box w(x, x)")
        self.said("f &x y = box w(y, x, y)", "f &x y = keep y; keep x; box w(y, x, y)")
        self.said("f &x = give(x)", "f &x = keep x; give(x)")

    def test_opens_of_them_are_looks(self):
        self.said("f &x = open x {w a b: box w(b, a, b); v: 1}",
                  "f &x = look x {w a b: keep b; keep b; keep a; box w(b, a, b); v: 1}")
        self.said("f &x = open x {w a: open a {v b: b; u: x}; t: 2}",
                  "f &x = look x {w a: look a {v b: keep b; b; u: keep x; x}; t: 2}")

    def test_they_are_not_loosed(self):
        self.said("f &x y &z = 1", "f &x y &z = loose y; 1")
        self.said("f &x n = let a be zero n {x} else {1} in 2",
                  "f &x n = let a be zero n {keep x; x} else {1} in loose a; 2")

    def test_they_are_borrowed_in_both_parts_of_a_let(self):
        self.said("f &x = let a be x in box w(a, x)", "f &x = let a be keep x; x in keep x; box w(a, x)")

    def test_shown_numbers_they_are_not_borrowed(self):
        self.stays(
            "f &x = zero x {x} else {box w(x, x)}", "f &x &y = let a be x - y in box w(x, y, x)",
            "f &x = zero x {open x {w a: a}} else {2}", "f &x = zero x {give(x)} else {2}",
        )


class LentWords(Counted):
    """Words that are asked for lent names."""

    def test_borrowed_ones_are_not_kept_for_them(self):
        self.stays("f &x = peek(x)", "f &x &y = none(y, x)", "f &x = none(x, x)")
        self.said("f &x = late(x, x)", "f &x = keep x; late(x, x)")
        self.said("f &x = mixed(x, x, x, x)", "f &x = keep x; keep x; mixed(x, x, x, x)")
        self.said("f x = let a be peek(x) in x", "f x = let a be peek(x) in x")
        self.said("f x = let a be hide() in let b be late(x, a) in box w(a, b, x)",
                  "f x = let a be hide() in let b be keep x; late(x, a) in box w(a, b, x)")

    def test_words_of_looks_likewise(self):
        self.said("f &x = open x {w a b: none(b, a)}", "f &x = look x {w a b: none(b, a)}")
        self.said("f &x = open x {w a b: late(a, b)}", "f &x = look x {w a b: keep a; late(a, b)}")

    def test_owned_ones_are_loosed_behind(self):
        self.said("f x = peek(x)", "f x = let qa be peek(x) in loose x; qa")
        self.said("f x = none(x, x)", "f x = let qa be none(x, x) in loose x; qa")
        self.said("f = let a be hide() in peek(a)", "f = let a be hide() in let qa be peek(a) in loose a; qa")
        self.said("f x = open x {w a b: none(a, b)}",
                  "f x = open x {w a b: let qa be none(a, b) in loose a; loose b; qa}")

    def test_owned_ones_are_kept_as_often_as_they_stand_for_others(self):
        self.said("f x = late(x, x)", "f x = keep x; let qa be late(x, x) in loose x; qa")
        self.said("f x = mixed(x, x, x, x)",
                  "f x = keep x; keep x; let qa be mixed(x, x, x, x) in loose x; qa")
        self.said("f x y = mixed(x, y, y, x)",
                  "f x y = keep y; keep x; let qa be mixed(x, y, y, x) in loose x; loose y; qa")

    def test_one_that_is_asked_for_a_lent_name_and_one_that_is_not(self):
        self.said("f x y = late(x, y)", "f x y = let qa be late(x, y) in loose y; qa")
        self.said("f x y = early(x, y)", "f x y = let qa be early(x, y) in loose x; qa")
        self.said("f x y z = mixed(x, y, z, y)",
                  "f x y z = keep y; let qa be mixed(x, y, z, y) in loose x; loose z; qa")
        self.said("f x y &z = mixed(x, z, z, y)", "f x y &z = keep z; let qa be mixed(x, z, z, y) in loose x; qa")

    def test_keeps_stand_in_the_order_in_which_words_first_stand_for_others(self):
        self.said("f x y = mixed(x, y, x, x)", "f x y = keep x; let qa be mixed(x, y, x, x) in loose x; qa")
        self.said("f &x &y = mixed(x, y, y, x)", "f &x &y = keep y; keep x; mixed(x, y, y, x)")
        self.said("f x &y = mixed(x, y, x, x)", "f x &y = keep y; keep x; let qa be mixed(x, y, x, x) in loose x; qa")

    def test_looses_stand_in_the_order_in_which_names_were_bound(self):
        self.said("f x y = none(y, x)", "f x y = let qa be none(y, x) in loose x; loose y; qa")
        self.said("f x = let b be hide() in let a be hide() in mixed(a, x, b, x)",
                  "f x = let b be hide() in let a be hide() in keep x; let qa be mixed(a, x, b, x) "
                  "in loose b; loose a; qa")

    def test_looses_ahead_stand_ahead_of_all(self):
        self.said("f z x y = late(x, x)", "f z x y = loose z; loose y; keep x; let qa be late(x, x) in loose x; qa")

    def test_shown_numbers_are_not_loosed(self):
        self.stays(
            "f = let a be 1 in peek(a)", "f x = zero x {none(x, x)} else {late(x, x)}",
            "f &x = let a be x + x in none(a, x)",
        )
        self.said("f x y = zero x {mixed(x, x, y, y)} else {y}",
                  "f x y = zero x {keep y; let qa be mixed(x, x, y, y) in loose y; qa} else {y}")

    def test_an_ask_that_surely_gives_a_number_still_does(self):
        self.said("f x = let a be peek(x) in box w(a, a)",
                  "f x = let a be let qa be peek(x) in loose x; qa in box w(a, a)")

    def test_an_errand_that_asks_itself(self):
        self.counts(["f &x = open x {w a: f(a); v: 1}"], ["f &x = look x {w a: f(a); v: 1}"])
        self.counts(["f &x y = open x {w a: f(y, a); v: y}"],
                    ["f &x y = look x {w a: keep a; let qa be f(y, a) in loose y; qa; v: y}"])


class NewWords(Counted):
    def test_by_the_asks_in_order(self):
        self.said("f x y = let a be peek(x) in let b be peek(y) in let c be hide() in peek(c)",
                  "f x y = let a be let qa be peek(x) in loose x; qa in let b be let qb be peek(y) in loose y; qb "
                  "in let c be hide() in let qc be peek(c) in loose c; qc")
        self.said("f x n = zero n {let a be hide() in none(a, x)} else {peek(x)}",
                  "f x n = zero n {let a be hide() in let qa be none(a, x) in loose x; loose a; qa} else "
                  "{let qb be peek(x) in loose x; qb}")

    def test_asks_that_need_none_take_none(self):
        self.said("f x &y = let a be peek(y) in let b be give(x) in peek(b)",
                  "f x &y = let a be peek(y) in let b be give(x) in let qa be peek(b) in loose b; qa")

    def test_words_that_the_errand_has_already_are_skipped(self):
        self.said("f qa = peek(qa)", "f qa = let qb be peek(qa) in loose qa; qb")
        self.said("f qa x = peek(x)", "f qa x = loose qa; let qb be peek(x) in loose x; qb")
        self.said("f &qa x = peek(x)", "f &qa x = let qb be peek(x) in loose x; qb")
        self.said("f x = let qa be 1 in peek(x)", "f x = let qa be 1 in let qb be peek(x) in loose x; qb")
        self.said("f x = open x {w qa: peek(qa)}", "f x = open x {w qa: let qb be peek(qa) in loose qa; qb}")
        self.said("f x = open x {qa a: peek(a)}", "f x = open x {qa a: let qb be peek(a) in loose a; qb}")
        self.said("f x n = zero n {peek(x)} else {box qa(x)}",
                  "f x n = zero n {let qb be peek(x) in loose x; qb} else {box qa(x)}")
        self.counts(["f x = g(x)", "g &x = let y be qa() in x + y", "qa = 1"],
                    ["f x = let qa be g(x) in loose x; qa", "g &x = let y be qa() in x + y", "qa = 1"])
        self.counts(["f x = let y be qa() in g(x)", "g &x = 1", "qa = 1"],
                    ["f x = let y be qa() in let qb be g(x) in loose x; qb", "g &x = 1", "qa = 1"])
        self.counts(["qa x = g(x)", "g &x = 1"], ["qa x = let qb be g(x) in loose x; qb", "g &x = 1"])
        self.said("f qb qa qd = let a be peek(qa) in let qe be peek(qb) in peek(qd)",
                  "f qb qa qd = let a be let qc be peek(qa) in loose qa; qc in "
                  "let qe be let qf be peek(qb) in loose qb; qf in let qg be peek(qd) in loose qd; qg")

    def test_words_that_come_later_are_skipped_too(self):
        self.said("f x y = let a be peek(x) in let qa be 1 in y",
                  "f x y = let a be let qb be peek(x) in loose x; qb in let qa be 1 in y")

    def test_each_errand_begins_anew(self):
        self.counts(["f x = h(x)", "g x = h(x)", "h &x = 1"],
                    ["f x = let qa be h(x) in loose x; qa", "g x = let qa be h(x) in loose x; qa", "h &x = 1"])

    def test_behind_qz_comes_qba(self):
        words = ["q" + letter for letter in "abcdefghijklmnopqrstuvwxyz"]
        for many, word in ((25, "qz"), (26, "qba")):
            cases = [tuple(words[:many][at:at + 3]) for at in range(0, many, 3)]
            term = ("ask", "g", ("x",))
            for case in cases:
                term = ("open", "y", (("w", case, term),))
            book = (("f", ("x", "y"), term), ("g", ("x",), ("number", 1)))
            self.assertIsNone(why_no_book(book))
            told = counted_by(book, ((False, True), (True,)))
            self.assertIsNone(uneven_at(told))
            for _ in cases:
                self.assertEqual(told[0][3][0], "look")
                told = (("f", (), (), told[0][3][2][0][2]),)
            self.assertEqual(
                told[0][3], ("let", word, ("ask", "g", ("x",)), ("loose", "x", ("name", word))))

    def test_their_letters_are_figures(self):
        for number, word in (
            (0, "qa"), (1, "qb"), (25, "qz"), (26, "qba"), (27, "qbb"), (52, "qca"), (675, "qzz"), (676, "qbaa"),
        ):
            self.assertEqual(letters_for(number), word)


class Lendable(unittest.TestCase):
    def told(self, lines, marked, taken):
        """The names that may be lent are marked, and each other one is told at its place."""
        with self.subTest(lines=lines):
            book = plain(*lines)
            self.assertIsNone(why_no_book(book))
            marks, places = lendable(book)
            self.assertEqual(marks, tuple(errand[2] for errand in held(*marked)))
            self.assertEqual(places, {tuple(name.split(".")): place for name, place in taken.items()})

    def test_nothing_is_taken_by_looking(self):
        self.told(["f x y = x + y"], ["f &x &y = 1"], {})
        self.told(["f x y = x - y"], ["f &x &y = 1"], {})
        self.told(["f x y = zero y {open x {w a b: a}} else {2}"], ["f &x &y = 1"], {})
        self.told(["f x = 1"], ["f &x = 1"], {})
        self.told(["f = box w()"], ["f = 1"], {})

    def test_a_name_term_takes(self):
        self.told(["f x = x"], ["f x = 1"], {"f.x": ("f",)})
        self.told(["f x y z = y"], ["f &x y &z = 1"], {"f.y": ("f",)})
        self.told(["f x = let a be x in 1"], ["f x = 1"], {"f.x": ("f", 0)})
        self.told(["f x = open x {w a: 1; v b: x}"], ["f x = 1"], {"f.x": ("f", 1)})

    def test_a_box_takes(self):
        self.told(["f x y z = box w(z, x)"], ["f x &y z = 1"], {"f.x": ("f",), "f.z": ("f",)})
        self.told(["f x y = let a be 1 in zero a {y + y} else {let b be box w(a, x) in 2}"], ["f x &y = 1"],
                  {"f.x": ("f", 1, 1, 0)})

    def test_words_of_its_parts_are_not_the_name(self):
        self.told(["f x = open x {w a: box w(a, a); v b: b}"], ["f &x = 1"], {})
        self.told(["f x = let a be x + x in a"], ["f &x = 1"], {})

    def test_asked_for_a_taken_name(self):
        self.told(["f x y = g(y, x)", "g a b = b"], ["f x &y = 1", "g &a b = 1"], {"f.x": ("f",), "g.b": ("g",)})
        self.told(["g a b = b", "f x y = let c be g(x, y) in 1"], ["g &a b = 1", "f &x y = 1"],
                  {"f.y": ("f", 0), "g.b": ("g",)})
        self.told(["f x = g(x, x)", "g a b = b"], ["f x = 1", "g &a b = 1"], {"f.x": ("f",), "g.b": ("g",)})

    def test_taken_through_asks_of_others(self):
        self.told(
            ["e x = f(x)", "f x = let a be 1 in g(x)", "g x = h(x)", "h x = box w(x)"],
            ["e x = 1", "f x = 1", "g x = 1", "h x = 1"],
            {"e.x": ("e",), "f.x": ("f", 1), "g.x": ("g",), "h.x": ("h",)},
        )
        self.told(
            ["h x = box w(x)", "g x = h(x)", "f x = let a be 1 in g(x)", "e x = f(x)"],
            ["h x = 1", "g x = 1", "f x = 1", "e x = 1"],
            {"e.x": ("e",), "f.x": ("f", 1), "g.x": ("g",), "h.x": ("h",)},
        )

    def test_what_only_goes_round_is_not_taken(self):
        self.told(["f x = f(x)"], ["f &x = 1"], {})
        self.told(["f x y = g(y, x)", "g a b = zero a {f(a, b)} else {f(b, a)}"], ["f &x &y = 1", "g &a &b = 1"], {})
        self.told(["f x y = zero y {f(y, x)} else {g(x)}", "g a = open a {w b: f(b, a); v: 1}"],
                  ["f &x &y = 1", "g &a = 1"], {})

    def test_going_round_till_it_is_taken(self):
        self.told(
            ["f x y z = open x {w: f(y, z, x); v: f(z, y, x); u: z; t: 1}"], ["f x y z = 1"],
            {"f.x": ("f", 0), "f.y": ("f", 0), "f.z": ("f", 0)},
        )
        self.told(
            ["f x y z = open x {w: f(x, z, y); v: z; u: 1}"], ["f &x y z = 1"], {"f.y": ("f", 0), "f.z": ("f", 0)},
        )

    def test_where_it_is_shown_a_number_it_is_not_taken(self):
        self.told(["f x = zero x {x} else {box w(x)}"], ["f &x = 1"], {})
        self.told(["f x y = let a be x + y in box w(x, y)"], ["f &x &y = 1"], {})
        self.told(["f x = zero x {g(x)} else {1}", "g a = a"], ["f &x = 1", "g a = 1"], {"g.a": ("g",)})
        self.told(["f x y = let a be zero y {x + x} else {1} in x"], ["f x &y = 1"], {"f.x": ("f", 1)})
        self.told(["f x y = zero y {x} else {zero x {x} else {x}}"], ["f x &y = 1"], {"f.x": ("f", 0)})
        self.told(["f x = let a be box w(x) in zero x {x} else {1}"], ["f x = 1"], {"f.x": ("f", 0)})

    def test_the_least_place(self):
        self.told(["f x y = zero y {box w(x)} else {x}"], ["f x &y = 1"], {"f.x": ("f", 0)})
        self.told(["f x = let a be let b be 1 in x in x"], ["f x = 1"], {"f.x": ("f", 0, 1)})
        self.told(["f x = open x {w: 1; v: let a be x in 2; u: x}"], ["f x = 1"], {"f.x": ("f", 1, 0)})
        self.told(["f x = open x {w: g(x); v: h(x); u: x}", "g a = 1", "h a = a"],
                  ["f x = 1", "g &a = 1", "h a = 1"], {"f.x": ("f", 1), "h.a": ("h",)})
        self.told(["f x = open x {w: g(x); v: x}", "g a = f(a)"], ["f x = 1", "g a = 1"],
                  {"f.x": ("f", 0), "g.a": ("g",)})

    def test_all_marks_in_order(self):
        self.told(["f x y = x", "g = 1", "h a b c = box w(c, a)"], ["f x &y = 1", "g = 1", "h a &b c = 1"],
                  {"f.x": ("f",), "h.a": ("h",), "h.c": ("h",)})


if __name__ == "__main__":
    unittest.main()
