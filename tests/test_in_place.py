"""[20] Boxes made in another's place, and how many places a run needs."""

import copy
import unittest

from helpers import made_freed
from sparecount import places
from sparecount.even import uneven_at
from sparecount.helds import why_no_held
from sparecount.machine import run_held
from sparecount.places import in_place, places_needed
from written import held


class Told(unittest.TestCase):
    def becomes(self, line, told):
        """What an errand becomes, beside some that it may ask."""
        more = ("g a = a", "h = box w()")
        with self.subTest(line=line):
            self.assertIsNone(why_no_held(held(line, *more)))
            self.assertEqual(in_place(held(line, *more)), held(told, *more))
            self.assertIsNone(why_no_held(held(told, *more)))

    def stays(self, *lines):
        for line in lines:
            self.becomes(line, line)


class Interface(unittest.TestCase):
    def test_they_are_defined_in_their_file(self):
        for function in (places.in_place, places.places_needed):
            self.assertEqual(function.__module__, "sparecount.places")

    def test_what_is_handed_in_stays(self):
        book = held("f &x y = open y {w a: keep x; box w(x)}")
        trail = [("ask", "f", 2), ("freed", 1), ("made", 3)]
        before = copy.deepcopy((book, trail))
        self.assertEqual(in_place(book), held("f &x y = open y {w a: keep x; again y w(x)}"))
        self.assertEqual(places_needed(trail), 4)
        self.assertEqual((book, trail), before)


class FirstBoxes(Told):
    def test_a_box_with_as_many_words(self):
        self.becomes("f x = open x {w a: box w(a)}", "f x = open x {w a: again x w(a)}")
        self.becomes("f x = open x {w a b: box v(b, x)}", "f x = open x {w a b: again x v(b, x)}")
        self.becomes("f x = open x {w a b c: box v(c, c, c)}", "f x = open x {w a b c: again x v(c, c, c)}")

    def test_a_box_with_other_many_words(self):
        self.stays("f x = open x {w a: box w()}", "f x = open x {w a: box w(a, a)}", "f x = open x {w a b: box w(a)}",
                   "f x = open x {w a b c: box w(a, b)}", "f x = open x {w a b: box w(a, b, b)}")

    def test_cases_without_words(self):
        self.stays("f x = open x {w: box w()}", "f x = open x {w: box w(x); v: box v()}")
        self.becomes("f x = open x {w: box w(x); v a: box v(a)}", "f x = open x {w: box w(x); v a: again x v(a)}")

    def test_each_case_by_itself(self):
        self.becomes(
            "f x = open x {w a: box w(a); v b c: box w(b); u d: 1; t e i: box p(e, i)}",
            "f x = open x {w a: again x w(a); v b c: box w(b); u d: 1; t e i: again x p(e, i)}",
        )

    def test_looks_have_no_place_to_give(self):
        self.stays("f x = look x {w a: box w(a)}", "f &x = look x {w a: let b be box w(a) in b}")

    def test_boxes_outside_of_cases(self):
        self.stays("f x = let y be box w(x) in open y {w a: a}", "f x = box w(x)", "f x = zero x {box w(x)} else {1}")
        self.becomes("f x = let y be open x {w a: a} in box v(y)", "f x = let y be open x {w a: a} in box v(y)")

    def test_no_box_at_all(self):
        self.stays("f x = open x {w a: a}", "f x = open x {w a: g(a)}", "f x = open x {w a: a + a; v b: 1; u c: c - c}")

    def test_all_errands(self):
        book = held("e x = open x {w a: box w(a)}", "f &x = 1", "d = h()", "h y = open y {w b: box w(b)}")
        self.assertEqual(in_place(book), held(
            "e x = open x {w a: again x w(a)}", "f &x = 1", "d = h()", "h y = open y {w b: again y w(b)}",
        ))


class WaysOn(Told):
    """From a case's term to the first box that fits."""

    def test_a_lets_first_part_where_that_is_a_box(self):
        self.becomes("f x = open x {w a: let b be box w(a) in b}", "f x = open x {w a: let b be again x w(a) in b}")
        self.becomes("f x = open x {w a: let b be box w(a) in box v(b)}",
                     "f x = open x {w a: let b be again x w(a) in box v(b)}")
        self.becomes("f x = open x {w a: let b be 1 in let c be box w(a) in let d be box v(c) in d}",
                     "f x = open x {w a: let b be 1 in let c be again x w(a) in let d be box v(c) in d}")

    def test_a_lets_first_part_where_that_is_a_box_that_does_not_fit(self):
        self.becomes("f x = open x {w a: let b be box w() in box v(b)}",
                     "f x = open x {w a: let b be box w() in again x v(b)}")
        self.becomes("f x = open x {w a: let b be box w(a, a) in let c be box v() in let d be box u(b) in d}",
                     "f x = open x {w a: let b be box w(a, a) in let c be box v() in let d be again x u(b) in d}")

    def test_a_lets_first_part_where_that_is_no_box(self):
        for first in (
            "g(a)", "a", "1", "keep a; box w(a)", "loose x; box w(a)", "let c be box w(a) in c",
            "zero a {box w(a)} else {1}", "look a {v c: box w(c)}", "let d be 1 in box w(a)", "h()",
        ):
            self.becomes("f x = open x {w a: let b be " + first + " in box v(b)}",
                         "f x = open x {w a: let b be " + first + " in again x v(b)}")
            self.stays("f x = open x {w a: let b be " + first + " in b}")

    def test_keeps_and_looses(self):
        self.becomes("f x = open x {w a: keep a; box w(a)}", "f x = open x {w a: keep a; again x w(a)}")
        self.becomes("f x y = open x {w a: loose y; keep a; loose a; box w(a)}",
                     "f x y = open x {w a: loose y; keep a; loose a; again x w(a)}")

    def test_both_parts_of_a_zero(self):
        self.becomes("f x y = open x {w a: zero y {box w(a)} else {box v(a)}}",
                     "f x y = open x {w a: zero y {again x w(a)} else {again x v(a)}}")
        self.becomes("f x y = open x {w a: zero y {1} else {let b be box v(a) in box u(b)}}",
                     "f x y = open x {w a: zero y {1} else {let b be again x v(a) in box u(b)}}")
        self.becomes("f x y = open x {w a: let b be box v(a) in zero y {box u(b)} else {b}}",
                     "f x y = open x {w a: let b be again x v(a) in zero y {box u(b)} else {b}}")

    def test_each_case_of_looks(self):
        self.becomes(
            "f x &y = open x {w a: look y {w b: box v(a); v c d: box u(c, d); u: let e be h() in box t(e)}}",
            "f x &y = open x {w a: look y {w b: again x v(a); v c d: box u(c, d); "
            "u: let e be h() in again x t(e)}}",
        )

    def test_each_case_of_opens(self):
        self.becomes("f x y = open x {w a: open y {w: box v(a); v c d: box u(a); u: 1}}",
                     "f x y = open x {w a: open y {w: again x v(a); v c d: again x u(a); u: 1}}")

    def test_behind_a_box_that_does_not_fit_it_ends(self):
        self.stays("f x = open x {w a: box v(x, a)}", "f x y = open x {w a: zero y {box v()} else {box u(a, a)}}")

    def test_the_first_one_alone_on_each_way(self):
        self.becomes("f x = open x {w a: let b be box w(a) in let c be box w(b) in box w(c)}",
                     "f x = open x {w a: let b be again x w(a) in let c be box w(b) in box w(c)}")


class WithinOneAnother(Told):
    def test_the_inner_one_goes_first(self):
        self.becomes("f x = open x {w a: open a {v b: box u(b)}}", "f x = open x {w a: open a {v b: again a u(b)}}")
        self.becomes("f x = open x {w a: open a {v b: open b {u c: box t(c)}}}",
                     "f x = open x {w a: open a {v b: open b {u c: again b t(c)}}}")

    def test_the_outer_one_has_the_next_box(self):
        self.becomes("f x = open x {w a: open a {v b: let c be box u(b) in box t(c)}}",
                     "f x = open x {w a: open a {v b: let c be again a u(b) in again x t(c)}}")
        self.becomes(
            "f x = open x {w a: open a {v b: let c be box u(b) in let d be box t(c) in let e be box s(d) in box r(e)}}",
            "f x = open x {w a: open a {v b: let c be again a u(b) in let d be again x t(c) in "
            "let e be box s(d) in box r(e)}}",
        )
        self.becomes(
            "f x = open x {w a: open a {v b: open b {u c: let d be box t(c) in let e be box s(d) in box r(e)}}}",
            "f x = open x {w a: open a {v b: open b {u c: let d be again b t(c) in "
            "let e be again a s(d) in again x r(e)}}}",
        )

    def test_the_outer_one_may_have_a_box_ahead_of_the_inner_one(self):
        self.becomes("f x y = open x {w a: let b be box v(a) in open y {v c: box u(c)}}",
                     "f x y = open x {w a: let b be again x v(a) in open y {v c: again y u(c)}}")

    def test_by_the_number_of_words_of_each(self):
        self.becomes("f x = open x {w a b: open a {v c: let d be box u(c, b) in box t(d)}}",
                     "f x = open x {w a b: open a {v c: let d be again x u(c, b) in again a t(d)}}")
        self.becomes("f x = open x {w a: open a {v b c: let d be box u(b) in box t(c, d)}}",
                     "f x = open x {w a: open a {v b c: let d be again x u(b) in again a t(c, d)}}")

    def test_each_case_of_the_inner_one(self):
        self.becomes("f x y = open x {w a: open y {v b: box u(b); u: box t(a); t c: 1; s d e: let i be box r(a) in i}}",
                     "f x y = open x {w a: open y {v b: again y u(b); u: again x t(a); t c: 1; "
                     "s d e: let i be again x r(a) in i}}")

    def test_an_open_in_a_lets_first_part(self):
        self.becomes("f x = let y be open x {w a: box v(a)} in y", "f x = let y be open x {w a: again x v(a)} in y")
        self.becomes("f x y = open x {w a: let b be open y {v c: box u(c)} in box t(a, b)}",
                     "f x y = open x {w a: let b be open y {v c: again y u(c)} in box t(a, b)}")
        self.becomes("f x y = open x {w a: let b be open y {v c d: box u(a)} in box t(b)}",
                     "f x y = open x {w a: let b be open y {v c d: box u(a)} in again x t(b)}")

    def test_the_name_that_is_opened_twice(self):
        self.becomes("f x = keep x; open x {w a: open x {w b: let c be box v(a) in box u(b, c)}}",
                     "f x = keep x; open x {w a: open x {w b: let c be again x v(a) in box u(b, c)}}")


class Runs(unittest.TestCase):
    TURN = ("turn row done = open row {end: done; more h t: let next be box more(h, done) in turn(t, next)}",
            "grow n = zero n {box end()} else {let one be 1 in let m be n - one in let t be grow(m) in box more(n, t)}",
            "all n = let r be grow(n) in let e be box end() in turn(r, e)")

    def both(self, word, *things):
        book = held(*self.TURN)
        placed = in_place(book)
        self.assertIsNone(uneven_at(book))
        self.assertIsNone(uneven_at(placed))
        self.assertNotEqual(placed, book)
        return run_held(book, word, things, 300), run_held(placed, word, things, 300)

    def test_alike_but_for_the_numbers_of_boxes(self):
        for word, *things in (("turn", ("more", (1, ("more", (2, ("end", ()))))), ("end", ())), ("all", 7), ("all", 0)):
            old, new = self.both(word, *things)
            self.assertEqual(new[0], old[0])
            self.assertEqual(new[2], old[2])
            self.assertEqual([deed if deed[0] == "ask" else deed[0] for deed in new[1]],
                             [deed if deed[0] == "ask" else deed[0] for deed in old[1]])
            self.assertEqual(len(new[3]), len(old[3]))

    def test_a_box_is_made_in_the_place_of_what_was_opened(self):
        old, new = self.both("all", 3)
        self.assertEqual(made_freed(old[1]), [
            ("made", 0), ("made", 1), ("made", 2), ("made", 3), ("made", 4),
            ("freed", 3), ("made", 5), ("freed", 2), ("made", 6), ("freed", 1), ("made", 7), ("freed", 0),
        ])
        self.assertEqual(made_freed(new[1]), [
            ("made", 0), ("made", 1), ("made", 2), ("made", 3), ("made", 4),
            ("freed", 3), ("made", 3), ("freed", 2), ("made", 2), ("freed", 1), ("made", 1), ("freed", 0),
        ])
        self.assertEqual((places_needed(old[1]), places_needed(new[1])), (8, 5))


class PlacesNeeded(unittest.TestCase):
    def test_none_made(self):
        self.assertEqual(places_needed([]), 0)
        self.assertEqual(places_needed([("ask", "f", 9), ("freed", 4), ("ask", "g", 8), ("freed", 0)]), 0)

    def test_the_greatest_number_made_and_one(self):
        self.assertEqual(places_needed([("made", 0)]), 1)
        self.assertEqual(places_needed([("ask", "f", 40), ("made", 6), ("freed", 12), ("made", 4), ("made", 5)]), 7)
        self.assertEqual(places_needed([("made", 3), ("freed", 3), ("made", 3)]), 4)

    def test_of_any_row_of_deeds(self):
        self.assertEqual(places_needed((("made", 1), ("made", 2))), 3)
        self.assertEqual(places_needed(()), 0)


class Sizes(unittest.TestCase):
    def test_two_hundred_within_one_another(self):
        def tower(end, deed):
            term = end
            for _ in range(98):
                term = ("keep", "a", (deed, "a", term))
            return (("f", ("x",), (False,), ("open", "x", (("w", ("a",), term),))),)
        self.assertEqual(in_place(tower(("box", "v", ("a",)), "loose")), tower(("again", "x", "v", ("a",)), "loose"))


if __name__ == "__main__":
    unittest.main()
