"""[13], [14] Even books: where holders are missing or left, told by the first such place."""

import copy
import unittest

from sparecount import even
from sparecount.even import uneven_at
from sparecount.helds import why_no_held
from written import held

# Errands that are asked by those that are looked at.
HELPERS = (
    "give a = a",
    "hide = box w()",
    "count a = loose a; 1",
    "peek &a = 1",
    "copy &a = keep a; a",
    "both &a b = b",
    "late a &b = a",
)


class Told(unittest.TestCase):
    def told(self, line, place):
        """What is told of an errand f beside those that it asks."""
        book = held(line, *[helper for helper in HELPERS if helper.split()[0] + "(" in line])
        with self.subTest(line=line):
            self.assertIn(why_no_held(book), (None, "great"))
            self.assertEqual(uneven_at(book), place)

    def even(self, *lines):
        for line in lines:
            self.told(line, None)

    def uneven(self, *lines):
        """Errands in which it isn't so at the errand's own term."""
        for line in lines:
            self.told(line, ("f",))

    def uneven_in(self, *told):
        """An errand in which it isn't so at the part to which these numbers lead."""
        *numbers, line = told
        self.told(line, ("f", *numbers))


class Interface(unittest.TestCase):
    def test_it_is_defined_in_its_file(self):
        self.assertEqual(even.uneven_at.__module__, "sparecount.even")

    def test_what_is_handed_in_stays(self):
        book = held("f x = let y be keep x; x in box w(x, y)", "g = 1")
        before = copy.deepcopy(book)
        self.assertIsNone(uneven_at(book))
        self.assertEqual(book, before)


class UsedUp(Told):
    """A holder is there where one is used up."""

    def test_each_way_to_use_one_up(self):
        self.even(
            "f x = x", "f x = loose x; 1", "f x = box w(x)", "f x = give(x)", "f x = open x {w: 1}",
            "f x = let y be x in y", "f x y = box w(x, y)", "f y x = box w(x, y)",
        )

    def test_used_twice(self):
        self.uneven("f x = box w(x, x)", "f x y = box w(x, y, x)", "f x = late(x, x)")
        self.uneven_in(0, "f x = loose x; x")
        self.uneven_in(0, "f x = loose x; loose x; 1")
        self.uneven_in(0, "f x = loose x; give(x)")
        self.uneven_in(0, "f x = loose x; box w(x)")
        self.uneven_in(0, "f x = loose x; open x {w: 1}")
        self.uneven_in(0, "f x = open x {w: x}")
        self.uneven_in(0, "f x = open x {w y: again x w(y, x)}")
        self.uneven_in(1, "f x = let y be x in box w(x, y)")
        self.uneven_in(1, "f x = let y be give(x) in box w(x, y)")

    def test_keep_gives_one_more(self):
        self.even(
            "f x = keep x; box w(x, x)", "f x = keep x; keep x; box w(x, x, x)", "f x = keep x; loose x; x",
            "f x = keep x; open x {w: x}", "f x = let y be keep x; x in box w(x, y)",
            "f x = let y be keep x; 1 in box w(x, x)",
        )
        self.uneven_in(0, "f x = keep x; box w(x, x, x)")
        self.uneven_in(0, 0, "f x = keep x; keep x; box w(x, x)")

    def test_words_of_an_opens_case_have_one(self):
        self.even(
            "f x = open x {w y: y; v z a: box w(a, z)}", "f x = open x {w y: open y {v z: z}}",
            "f x = open x {w y: keep y; box w(y, y)}",
        )
        self.uneven_in(0, "f x = open x {w y: box w(y, y)}")
        self.uneven_in(1, "f x = open x {v: 1; w y: box w(y, y)}")

    def test_words_of_a_looks_case_have_none(self):
        self.uneven_in(0, "f &x = look x {w y: y}")
        self.uneven_in(0, "f &x = look x {w y: box w(y)}")
        self.uneven_in(0, "f &x = look x {w y: give(y)}")
        self.uneven_in(0, "f &x = look x {w y: loose y; 1}")
        self.uneven_in(0, "f &x = look x {w y: open y {v: 1}}")
        self.even("f &x = look x {w y: keep y; y}", "f &x = look x {w y: keep y; open y {v z: z}}")
        self.uneven_in(0, 0, "f &x = look x {w y: keep y; box w(y, y)}")

    def test_lent_names_have_none(self):
        self.uneven(
            "f &x = x", "f &x = loose x; 1", "f &x = box w(x)", "f &x = give(x)", "f &x = open x {w: 1}",
            "f y &x = box w(x, y)", "f &x y = box w(x, y)",
        )
        self.even("f &x = keep x; x", "f &x = keep x; open x {w y: y}", "f &x = keep x; keep x; box w(x, x)")
        self.uneven_in(0, "f &x = keep x; box w(x, x)")
        self.uneven_in(0, 0, "f &x = keep x; loose x; x")

    def test_what_a_let_binds_has_one(self):
        self.even("f = let x be hide() in x", "f = let x be box w() in box w(x)")
        self.uneven_in(1, "f = let x be box w() in box w(x, x)")
        self.uneven_in(1, 1, "f = let x be box w() in let y be x in box w(x, y)")

    def test_each_word_of_an_again_but_not_its_name(self):
        self.even("f x = open x {w y: again x w(y)}", "f x = open x {w y: keep y; again x w(y, y)}")
        self.uneven_in(0, "f x = open x {w y: again x w(y, y)}")
        self.uneven_in(0, "f x = open x {w y: again x w(x, y)}")

    def test_an_ask_uses_up_none_for_lent_names(self):
        self.even("f &x = peek(x)", "f &x = copy(x)", "f &x y = both(x, y)", "f &x y = late(y, x)")
        self.even("f x = let r be copy(x) in box w(x, r)", "f x y = let r be late(x, y) in box w(r, y)")
        self.uneven("f &x y = both(y, x)", "f &x y = late(x, y)", "f x = peek(x)", "f x = copy(x)")


class Held(Told):
    """A name is held where it is touched."""

    def test_touched_behind_its_last_holder(self):
        for term in ("keep x; x", "look x {w: 1}", "zero x {1} else {2}", "x + x", "x - y", "y + x", "peek(x)"):
            self.uneven_in(0, "f x &y = loose x; " + term)
        self.uneven_in(1, "f x = let y be x in zero x {y} else {y}")
        self.uneven_in(0, 1, "f x y = loose y; let z be count(x) in x + z")

    def test_held_by_its_holder_or_lent(self):
        for term in ("look x {w: 1}", "zero x {1} else {2}", "y + x", "x - y"):
            self.even("f &x &y = " + term)
        for term in ("look x {w: loose x; 1}", "zero x {1} else {2}", "y + x", "x - y"):
            self.even("f x &y = " + term)

    def test_a_word_of_a_look_is_held_as_long_as_what_is_looked_at(self):
        self.even(
            "f x = look x {w y: keep y; loose x; y}", "f x = look x {w y: zero y {loose x; 1} else {loose x; 2}}",
            "f x = look x {w y z: keep z; keep y; loose x; box w(y, z)}", "f &x = look x {w y: y + y}",
        )
        for term in ("keep y; y", "look y {w: 1}", "zero y {1} else {2}", "y + y", "peek(y)"):
            self.uneven_in(0, 0, "f x = look x {w y: loose x; " + term + "}")
        self.uneven_in(0, 1, "f x = look x {w y: let z be x in keep y; box w(y, z)}")
        self.uneven_in(0, 0, "f x = look x {w y: open x {w z: keep y; box w(y, z)}}")

    def test_words_of_looks_within_looks(self):
        self.even("f x = look x {w y: look y {w z: keep z; loose x; z}}")
        self.even("f x = look x {w y: keep y; loose x; look y {w z: keep z; loose y; z}}")
        self.even("f &x = look x {w y: look y {w z: look z {w a: a + z}}}")
        self.uneven_in(0, 0, 0, "f x = look x {w y: look y {w z: loose x; keep z; z}}")
        self.uneven_in(0, 0, 0, 0, 0, "f x = look x {w y: keep y; loose x; look y {w z: loose y; keep z; z}}")
        self.even("f x = look x {w y: look y {w z: keep y; loose x; keep z; loose y; z}}")

    def test_a_word_of_a_look_has_holders_of_its_own(self):
        self.uneven_in(0, 0, "f &x = look x {w y: keep y; 1}")
        self.uneven_in(0, 0, 0, "f &x = look x {w y: keep y; keep y; y}")

    def test_words_asked_for_lent_names_are_held_still(self):
        self.uneven("f x = both(x, x)", "f x = late(x, x)")
        self.even("f x = keep x; let r be both(x, x) in loose x; r", "f &x = keep x; both(x, x)")
        self.even("f x = let r be peek(x) in loose x; 1")
        self.uneven_in(0, "f x = look x {w y: both(y, x)}")
        self.uneven_in(0, "f x = look x {w y: late(x, y)}")
        self.even("f x = keep x; look x {w y: let r be late(x, y) in loose x; r}", "f &x = look x {w y: peek(y)}")
        self.uneven_in(0, "f x = loose x; peek(x)")

    def test_again_does_not_touch_its_name(self):
        self.even("f x = open x {w: again x v()}")


class Left(Told):
    """No holder is left at an end, but of what was bound further out."""

    def test_left_at_an_errands_end(self):
        self.uneven("f x = 1", "f x = hide()", "f x = box w()", "f x y = x", "f x y = y", "f x y z = box w(x, y)")
        self.uneven_in(0, "f x = keep x; x")
        self.uneven_in(0, "f &x = keep x; 1")
        self.uneven_in(0, "f x = look x {w: 1}")
        self.uneven_in(1, "f = let y be box w() in 1")
        self.uneven_in(0, "f x = open x {w y: 1}")
        self.uneven_in(0, "f x = open x {w y z: z}")
        self.uneven_in(1, "f x = open x {v: 1; w y: 1}")

    def test_left_at_the_end_of_a_lets_first_part(self):
        self.uneven_in(0, 0, "f x = let y be open x {w z: 1} in 1")
        self.uneven_in(0, 1, "f = let y be let z be box w() in 1 in 1")
        self.uneven_in(0, 0, 0, "f &x = let y be look x {w z: keep z; 1} in 1")
        self.uneven_in(0, 1, 1, "f = let y be let z be box w() in let a be 1 in hide() in y")
        self.uneven_in(0, 1, 0, "f x = let y be zero x {1} else {open x {w z: 2}} in 1")

    def test_what_is_bound_further_out_may_be_left_by_a_lets_first_part(self):
        self.even("f x = let y be hide() in box w(x, y)", "f x = let y be let z be hide() in z in box w(x, y)")
        self.even("f = let x be hide() in let y be let z be hide() in z in box w(x, y)")
        self.uneven_in(1, "f x = let y be hide() in y")


class Ways(Told):
    """Each other name has as many holders on each way through a let's T."""

    def test_alike(self):
        self.even(
            "f x &n = let y be zero n {loose x; 1} else {count(x)} in 1",
            "f x &n = let y be zero n {x} else {give(x)} in y",
            "f x &n = let y be zero n {1} else {2} in x",
            "f x &n = let y be zero n {keep x; 1} else {keep x; 2} in box w(x, x)",
            "f x z = let y be open x {w: z; v a: loose z; a; u b c: loose z; loose c; b} in y",
        )

    def test_unlike_tells_the_let(self):
        self.uneven(
            "f x &n = let y be zero n {loose x; 1} else {2} in 1",
            "f x &n = let y be zero n {1} else {loose x; 2} in x",
            "f x &n = let y be zero n {keep x; 1} else {2} in x",
            "f &x &n = let y be zero n {keep x; 1} else {2} in 1",
            "f x z = let y be open x {w: z; v a: a} in y",
            "f z x &n = let y be zero n {z} else {x} in y",
        )
        self.uneven_in(0, "f x &n = keep x; let y be zero n {loose x; 1} else {2} in x")
        self.uneven_in(0, "f x &n = let z be let y be zero n {loose x; 1} else {2} in 1 in x")
        self.uneven_in(0, "f &x &n = look x {w y: let z be zero n {keep y; 1} else {2} in 1}")

    def test_ways_of_ends_within_ends(self):
        self.uneven("f x &n = let y be zero n {1} else {zero n {1} else {loose x; 2}} in 1")
        self.uneven("f x &n = let y be zero n {zero n {1} else {loose x; 2}} else {3} in 1")
        self.uneven("f x &n = let y be look n {w: zero n {1} else {loose x; 2}; v: 3} in 1")
        self.uneven("f x &n = let y be let z be hide() in zero n {z} else {loose z; x} in y")
        self.even("f x &n = let y be let z be hide() in zero n {loose x; z} else {loose z; x} in y")

    def test_an_end_by_name_or_box_uses_up_on_its_way(self):
        self.uneven("f x &n = let y be zero n {x} else {1} in y", "f x &n = let y be zero n {box w(x)} else {1} in y")
        self.even("f x &n = let y be zero n {x} else {box w(x)} in y")

    def test_behind_a_let_a_name_has_what_its_ways_leave(self):
        self.even("f x = let y be loose x; 1 in 1", "f x = let y be keep x; keep x; 1 in box w(x, x, x)")
        self.uneven_in(1, "f x = let y be loose x; 1 in x")
        self.uneven_in(1, "f x = let y be keep x; 1 in x")


class Numbers(Told):
    """What is shown a number needs no holder and has any."""

    def test_terms_that_give_numbers_bind_numbers(self):
        for term in (
            "1", "n + n", "n - n", "peek(n)", "zero n {1} else {n}", "let z be 1 in z", "keep n; loose n; 2",
            "look n {w: 1; v a: 2}", "let z be n + n in n", "zero n {let z be n in z} else {loose n; n}",
        ):
            line = "f &n = let y be " + term + " in "
            self.even(line + "1", line + "box w(y, y)", line + "loose y; y", line + "keep y; 2")

    def test_terms_that_may_give_boxes_do_not(self):
        for term in ("hide()", "box w()", "keep x; x", "zero x {1} else {hide()}", "let z be hide() in z"):
            self.uneven_in(1, "f &x = let y be " + term + " in 1")
            self.uneven_in(1, "f &x = let y be " + term + " in box w(y, y)")

    def test_an_ask_gives_a_number_where_the_errand_surely_does(self):
        self.even("f x = let y be count(x) in 1", "f x = let y be count(x) in box w(y, y)")
        self.uneven_in(1, "f x = let y be give(x) in 1")
        self.assertIsNone(uneven_at(held("f = let y be f() in 1")))
        self.assertIsNone(uneven_at(held("f = let y be g() in y", "g = let z be f() in z")))
        self.assertEqual(uneven_at(held("f = let y be g() in 1", "g = box w()")), ("f", 1))

    def test_done_ahead_on_every_way(self):
        for first in (
            "x + x", "y - x", "zero x {1} else {2}", "zero y {x + x} else {x - y}",
            "zero y {zero x {1} else {2}} else {x + y}", "let a be x + y in 1", "keep y; loose y; x + x",
        ):
            for last in ("1", "x", "box w(x, x)", "loose x; x", "keep x; 1"):
                self.even("f x &y = let z be " + first + " in " + last)

    def test_done_on_one_way_only(self):
        self.even("f x &y = let z be zero y {x + x} else {1} in x")
        self.even("f x &y = let z be zero y {1} else {zero x {1} else {2}} in x")
        self.uneven_in(1, "f x &y = let z be zero y {x + x} else {1} in 1")
        self.uneven_in(1, "f x &y = let z be zero y {1} else {zero x {1} else {2}} in box w(x, x)")

    def test_behind_a_let_it_has_what_it_has_on_the_ways_where_it_is_none(self):
        self.even("f x &y = let z be zero y {x + x} else {loose x; 1} in 1")
        self.even("f x &y = let z be zero y {keep x; 1} else {zero x {1} else {loose x; loose x; 2}} in box w(x, x)")
        self.uneven_in(1, "f x &y = let z be zero y {x + x} else {loose x; 1} in x")
        self.uneven("f x &y = let z be zero y {x + x} else {zero y {loose x; 1} else {2}} in 1")

    def test_behind_a_zero_that_names_it(self):
        self.even(
            "f x = zero x {1} else {2}", "f x = zero x {x} else {x}", "f x = zero x {box w(x, x)} else {loose x; x}",
            "f x = zero x {let a be x in box w(a, a)} else {keep x; 3}", "f x = zero x {give(x)} else {both(x, x)}",
        )
        self.uneven_in(0, "f x y = zero x {1} else {y}")
        self.uneven_in(1, "f x y = zero x {y} else {1}")

    def test_an_ends_own_plus_counts_where_it_leaves(self):
        self.even("f x y = x + y", "f x y = x - y", "f x = x + x", "f x = open x {w y z: y + z}")
        self.uneven("f x y z = x + y", "f x y z = z - y", "f y = 1")
        self.even("f x = let y be x + x in 1", "f x = let y be open x {w z a: z - a} in 1")
        self.uneven_in(0, 0, "f x = let y be open x {w z a: z - z} in 1")

    def test_an_ends_own_plus_does_not_hold_what_it_touches(self):
        self.uneven_in(0, "f x = loose x; x + x")
        self.uneven_in(0, "f x &y = loose x; y - x")

    def test_looking_and_opening_what_is_shown_a_number(self):
        self.even("f x = zero x {open x {w: 1}} else {look x {w: 2}}")
        self.even("f x = zero x {open x {w y: y}} else {look x {w z: z + z}}")
        self.even("f x = zero x {look x {w y: peek(y)}} else {look x {w z: keep z; z}}")
        self.uneven_in(0, 0, "f x = zero x {open x {w y: 1}} else {1}")
        self.uneven_in(0, 0, "f x = zero x {look x {w y: y}} else {1}")


class First(Told):
    """The place that comes first, in the order of going through."""

    def test_a_terms_own_deed_is_ahead_of_its_parts(self):
        self.uneven("f &x = loose x; loose x; 1", "f &x = open x {w y: 1; v z a: 1}")
        self.uneven_in(0, "f &x = keep x; 1")

    def test_parts_in_order(self):
        self.uneven_in(0, "f x &n = zero n {1} else {2}")
        self.uneven_in(1, "f x &n = zero n {x} else {2}")
        self.uneven_in(0, 1, "f x &n = zero n {zero n {x} else {2}} else {3}")
        self.uneven_in(1, "f x y = open x {w: y; v: 1; u: y; t: 2}")
        self.uneven_in(2, 0, "f x y = open x {w: y; v: y; u: loose y; y; t: 2}")
        self.uneven_in(1, "f &x y = look x {w: y; v: 1; u: 2}")

    def test_of_a_let_the_first_part_then_the_let_then_the_second(self):
        both = "f x y &n = let z be {} in box w(z, z)"
        self.uneven_in(0, 0, 0, both.format("zero n {loose x; loose x; 1} else {hide()}"))
        self.uneven_in(0, 1, both.format("zero n {loose x; hide()} else {box w(y, y)}"))
        self.uneven(both.format("zero n {loose x; hide()} else {hide()}"))
        self.uneven_in(1, both.format("zero n {loose x; hide()} else {loose x; hide()}"))

    def test_what_an_end_leaves_is_ahead_of_what_comes_behind(self):
        self.uneven_in(0, 0, 0, "f x &n = let y be zero n {open x {w a: 1}} else {loose x; loose x; 1} in 1")
        self.uneven_in(0, 0, 1, "f x &n = let y be zero n {let z be hide() in 1} else {loose x; 2} in 1")

    def test_errands_in_order(self):
        self.assertEqual(uneven_at(held("g a = 1", "f x = loose x; x")), ("g",))
        self.assertEqual(uneven_at(held("g a = a", "f x = loose x; x")), ("f", 0))
        self.assertEqual(uneven_at(held("g a = a", "f x = x", "e = let x be box w() in 1")), ("e", 1))
        self.assertIsNone(uneven_at(held("g a = a", "f x = x")))

    def test_uneven_in_an_errand_that_is_only_asked(self):
        self.assertEqual(uneven_at(held("f x = g(x)", "g &a = a")), ("f",))
        self.assertEqual(uneven_at(held("f &x = g(x)", "g &a = a")), ("g",))


class Sizes(unittest.TestCase):
    """[10] Greater ones than held books may be, but none within more than two hundred others."""

    def looked_over(self, term, place=None):
        book = (("f", ("x", "n"), (False, True), term),)
        self.assertEqual(why_no_held(book), "great")
        self.assertEqual(uneven_at(book), place)

    def test_two_hundred_within_one_another(self):
        term = ("name", "x")
        for _ in range(100):
            term = ("keep", "x", ("loose", "x", term))
        self.looked_over(term)
        self.looked_over(("loose", "x", term[2]), ("f", 0))
        words = ["a" + one + other for one in "bcdefghijklmno" for other in "bcdefghijklmno"]
        term = ("name", words[-1])
        for word, last in reversed(list(zip(words, ["x"] + words))):
            term = ("let", word, ("box", "w", (last,)), term)
        self.looked_over(term)
        self.looked_over(term[:3] + (("loose", words[0], term[3]),), ("f", 1, 0, 0))

    def test_thousands_of_terms(self):
        term = ("name", "x")
        for _ in range(10):
            term = ("zero", "n", term, term)
        self.looked_over(("let", "y", term, ("name", "y")))
        self.looked_over(("let", "y", term, ("name", "x")), ("f", 1))


if __name__ == "__main__":
    unittest.main()
