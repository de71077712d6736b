"""[11] Boxes of held runs: their numbers, their holders, and those made in another's place."""

import unittest

from helpers import MAKE, ONE, UNIT, Told, deeds, freed, lets, looked, made, made_freed, nested, opened
from sparecount.machine import run_held


class Numbers(Told):
    """[11] The numbers of boxes."""

    def test_boxes_handed_in_come_behind_their_parts(self):
        thing = ("p", (("q", (("r", ()), 7)), 5, ("s", (("t", ()), ("u", ())))))
        # r 0, q 1, t 2, u 3, s 4, p 5; a box freed is told ahead of its parts.
        self.told(("loose", "x", ONE), (thing,), ("done", 1), freed(5, 1, 0, 4, 2, 3), (0, 1), [])

    def test_one_thing_comes_behind_the_other(self):
        thing = ("w", (UNIT,))
        self.told(("loose", "y", ONE), (thing, thing, thing), ("done", 1), freed(3, 2), (0, 1), [0, 1, 4, 5])
        self.told(("loose", "z", ONE), (7, 8, thing), ("done", 1), freed(1, 0), (0, 1), [])

    def test_a_box_is_handed_in_as_often_as_it_stands_there(self):
        self.told(("loose", "x", ONE), (("w", (UNIT, UNIT)), UNIT), ("done", 1), freed(2, 0, 1), (0, 1), [3])

    def test_boxes_handed_in_are_in_no_trail(self):
        told = self.run_of(("number", 3), ("w", (UNIT, UNIT)), UNIT)
        self.assertEqual(told, (("done", 3), [("ask", "f", 4)], (0, 0), [0, 1, 2, 3]))

    def test_boxes_made_have_the_next_numbers(self):
        self.told(MAKE, (), ("done", UNIT), made(0), (0, 0), [0])
        two = lets(("a", MAKE), ("b", ("box", "w", ("a",))), last=("box", "w", ("b",)))
        self.told(two, (), ("done", nested(2)), made(0, 1, 2), (0, 0), [0, 1, 2])
        self.told(two, (UNIT, 5, UNIT), ("done", nested(2)), made(2, 3, 4), (0, 0), [0, 1, 2, 3, 4])

    def test_numbers_of_freed_boxes_are_not_given_again(self):
        term = lets(("a", MAKE), ("n", ("loose", "a", ONE)), last=MAKE)
        self.told(term, (), ("done", UNIT), made(0) + freed(0) + made(1), (0, 1), [1])


class Holders(Told):
    """[11] Who holds boxes, and when they are freed."""

    def test_a_box_is_made_with_one_holder(self):
        self.told(lets(("a", MAKE), last=("loose", "a", ONE)), (), ("done", 1), made(0) + freed(0), (0, 1), [])

    def test_a_box_handed_in_has_one_holder(self):
        self.told(("loose", "x", ONE), (UNIT,), ("done", 1), freed(0), (0, 1), [])

    def test_keep_gives_one_holder_more_and_loose_one_less(self):
        for keeps in range(4):
            for looses in range(keeps + 2):
                term = deeds(*[("keep", "x")] * keeps, *[("loose", "x")] * looses)
                gone = looses > keeps
                self.told(
                    term, (UNIT,), ("done", 1), freed(0) if gone else [], (keeps, looses), [] if gone else [0],
                )

    def test_numbers_have_no_holders(self):
        for kinds in (("keep",), ("loose",), ("loose", "loose"), ("loose", "keep", "loose", "loose")):
            term = deeds(*[(kind, "x") for kind in kinds], last=("name", "x"))
            for n in (0, 1, 999):
                self.told(term, (n, UNIT), ("done", n), [], (0, 0), [0])

    def test_the_holders_of_its_parts_are_a_box_its_own(self):
        term = lets(("a", MAKE), ("b", ("box", "w", ("a",))), last=("loose", "b", ONE))
        self.told(term, (), ("done", 1), made(0, 1) + freed(1, 0), (0, 1), [])
        kept = lets(("a", MAKE), ("b", ("keep", "a", ("box", "w", ("a",)))), last=("loose", "b", ("name", "a")))
        self.told(kept, (), ("done", UNIT), made(0, 1) + freed(1), (1, 1), [0])

    def test_parts_are_loosed_in_order_each_with_all_that_is_freed_by_it(self):
        thing = ("w", (("w", (UNIT, UNIT)), 3, ("w", (UNIT, 7))))
        self.told(("loose", "x", ONE), (thing,), ("done", 1), freed(5, 2, 0, 1, 4, 3), (0, 1), [])

    def test_parts_that_others_hold_are_not_freed(self):
        term = looked("x", ("a", "b"), ("keep", "a", ("loose", "x", ONE)))
        self.told(term, (("w", (("w", (UNIT,)), UNIT)),), ("done", 1), freed(3, 2), (1, 1), [0, 1])

    def test_a_part_that_stands_twice_is_loosed_twice(self):
        twice = lets(("a", MAKE), ("b", ("keep", "a", ("box", "w", ("a", "a")))), last=("loose", "b", ONE))
        self.told(twice, (), ("done", 1), made(0, 1) + freed(1, 0), (1, 1), [])

    def test_open_frees_a_box_with_one_holder(self):
        term = opened("x", ("a", "b"), ONE)
        self.told(term, (("w", (5, 6)),), ("done", 1), freed(0), (0, 0), [])

    def test_open_passes_the_holders_of_the_parts_of_what_it_frees(self):
        thing = ("w", (UNIT, UNIT))
        self.told(opened("x", ("a", "b"), ONE), (thing,), ("done", 1), freed(2), (0, 0), [0, 1])
        term = opened("x", ("a", "b"), ("loose", "b", ("name", "a")))
        self.told(term, (thing,), ("done", UNIT), freed(2, 1), (0, 1), [0])

    def test_open_of_a_box_with_more_holders(self):
        thing = ("w", (UNIT, 5))
        first = ("keep", "x", opened("x", ("a", "b"), ("loose", "x", ("loose", "a", ONE))))
        # The box has one holder left, and its part two: that of the box and the word's.
        self.told(first, (thing,), ("done", 1), freed(1, 0), (1, 2), [])
        part_first = ("keep", "x", opened("x", ("a", "b"), ("loose", "a", ("name", "x"))))
        self.told(part_first, (thing,), ("done", thing), [], (1, 1), [0, 1])
        part_twice = ("keep", "x", opened("x", ("a", "b"), ("loose", "a", ("loose", "a", ("name", "b")))))
        self.told(part_twice, (thing,), ("done", 5), freed(0), (1, 2), [1])

    def test_open_takes_one_holder_at_a_time(self):
        # Of the part's holders one more comes with each of a and b, and c has the box's own.
        for many, gone, left in ((0, freed(1), [0]), (1, freed(1), [0]), (2, freed(1), [0]), (3, freed(1, 0), [])):
            loosed = deeds(*[("loose", word) for word in ("a", "b", "c")[:many]])
            opens = opened("x", ("a",), opened("x", ("b",), opened("x", ("c",), loosed)))
            term = deeds(("keep", "x"), ("keep", "x"), last=opens)
            self.told(term, (("w", (UNIT,)),), ("done", 1), gone, (2, many), left)

    def test_a_part_that_stands_twice_has_two_holders_more(self):
        make = lets(("p", MAKE), last=("keep", "p", ("box", "w", ("p", "p"))))
        for many in range(5):
            loosed = deeds(*[("loose", word) for word in ("a", "b", "a", "b")[:many]])
            term = ("let", "x", make, ("keep", "x", opened("x", ("a", "b"), loosed)))
            gone = freed(0) if many == 4 else []
            self.told(term, (), ("done", 1), made(0, 1) + gone, (2, many), [1] if many == 4 else [0, 1])

    def test_look_changes_nothing(self):
        thing = ("w", (UNIT, 5))
        self.told(looked("x", ("a", "b"), ("number", 2)), (thing,), ("done", 2), [], (0, 0), [0, 1])
        self.told(looked("x", ("a", "b"), ("name", "x")), (thing,), ("done", thing), [], (0, 0), [0, 1])
        self.told(looked("x", ("a", "b"), ("loose", "x", ONE)), (thing,), ("done", 1), freed(1, 0), (0, 1), [])
        self.told(looked("x", ("a", "b"), ("loose", "a", ONE)), (thing,), ("done", 1), freed(0), (0, 1), [1])

    def test_an_asked_errand_has_what_it_is_asked_with(self):
        asked = (("f", ("x",), (False,), ("ask", "g", ("x",))), ("g", ("a",), (False,), ("loose", "a", ONE)))
        self.assertEqual(
            run_held(asked, "f", (UNIT,), 300),
            (("done", 1), [("ask", "f", 1), ("ask", "g", 1), ("freed", 0)], (0, 1), []),
        )

    def test_lent_names_change_no_run(self):
        for lent in (True, False):
            held = (("f", ("x",), (lent,), ("keep", "x", ("loose", "x", ("name", "x")))),)
            self.assertEqual(
                run_held(held, "f", (UNIT,), 300), (("done", UNIT), [("ask", "f", 1)], (1, 1), [0]),
            )

    def test_thousands_of_boxes_within_one_another(self):
        # Each ask wraps what it has forty times.
        words = ["w" + one + other for one in "abcd" for other in "abcdefghij"]
        wraps = [(word, ("box", "w", (inner,))) for word, inner in zip(words, ["row"] + words)]
        step = lets(("one", ONE), ("m", ("less", "n", "one")), *wraps, last=("ask", "wrap", ("m", words[-1])))
        wrap = ("wrap", ("n", "row"), (False, False), ("zero", "n", ("name", "row"), step))
        many = 290 * 40
        loosed = (("f", ("n", "x"), (False, False), lets(
            ("row", ("ask", "wrap", ("n", "x"))), last=("loose", "row", ("number", 7)),
        )), wrap)
        end, trail, counts, left = run_held(loosed, "f", (290, 0), 300)
        self.assertEqual((end, counts, left), (("done", 7), (0, 1), []))
        self.assertEqual(made_freed(trail), made(*range(many)) + freed(*reversed(range(many))))
        end, trail, counts, left = run_held((wrap,), "wrap", (290, 0), 300)
        self.assertEqual((end, counts, left), (("much",), (0, 0), list(range(many))))
        self.assertEqual(trail[-1], ("ask", "wrap", many))
        # The innermost of them freed, all is broken by telling them, or by loosing them.
        for last, looses, left in ((("name", "row"), 1, list(range(1, many + 1))), (("loose", "row", ONE), 2, [])):
            gone = lets(("row", ("ask", "wrap", ("n", "x"))), ("m", ("loose", "x", ONE)), last=last)
            told = run_held((("f", ("n", "x"), (False, False), gone), wrap), "f", (290, UNIT), 300)
            self.assertEqual((told[0], told[2], told[3]), (("broken",), (0, looses), left))


class Again(Told):
    """[11] Boxes made in another's place."""

    def test_in_the_place_of_what_its_open_freed(self):
        term = opened("x", ("a", "b"), ("again", "x", "v", ("b", "a")))
        self.told(term, (("w", (5, UNIT)),), ("done", ("v", (UNIT, 5))), freed(1) + made(1), (0, 0), [0, 1])

    def test_other_numbers_go_on_as_if_it_were_none(self):
        term = opened("x", (), lets(("a", MAKE), ("b", ("again", "x", "w", ("a",))), last=("box", "w", ("b",))))
        self.told(
            term, (("w", ()), UNIT), ("done", nested(2)),
            freed(0) + made(2, 0, 3), (0, 0), [0, 1, 2, 3],
        )

    def test_only_the_first_takes_the_place(self):
        term = opened("x", (), lets(("a", ("again", "x", "v", ())), last=("again", "x", "u", ("a",))))
        self.told(
            term, (("w", ()),), ("done", ("u", (("v", ()),))), freed(0) + made(0, 1), (0, 0), [0, 1],
        )

    def test_what_was_made_there_and_freed_since_leaves_no_place(self):
        for kind in ("loose", "open"):
            free = ("loose", "a", ONE) if kind == "loose" else opened("a", (), ONE)
            term = opened("x", (), lets(("a", ("again", "x", "w", ())), ("n", free), last=("again", "x", "w", ())))
            self.told(
                term, (("w", ()),), ("done", ("w", ())),
                freed(0) + made(0) + freed(0) + made(1), left=[1],
            )

    def test_where_the_open_freed_nothing(self):
        term = ("keep", "x", opened("x", (), ("again", "x", "v", ())))
        self.told(term, (("w", ()),), ("done", ("v", ())), made(1), (1, 0), [0, 1])

    def test_what_was_loosed_behind_the_open_leaves_no_place(self):
        term = ("keep", "x", opened("x", (), ("loose", "x", ("again", "x", "v", ()))))
        self.told(term, (("w", ()),), ("done", ("v", ())), freed(0) + made(1), (1, 1), [1])

    def test_each_open_has_a_place_of_its_own(self):
        both = lets(("a", ("again", "y", "v", ())), last=("again", "x", "u", ("a",)))
        term = opened("x", (), opened("y", (), both))
        self.told(
            term, (("w", ()), ("w", ())), ("done", ("u", (("v", ()),))),
            freed(0, 1) + made(1, 0), (0, 0), [0, 1],
        )

    def test_a_place_may_be_taken_and_left_by_turns(self):
        term = opened("x", (), lets(
            ("a", ("again", "x", "w", ())), last=opened("a", (), lets(
                ("b", ("again", "x", "u", ())), last=("again", "a", "v", ("b",)),
            )),
        ))
        self.told(
            term, (("w", ()),), ("done", ("v", (("u", ()),))),
            freed(0) + made(0) + freed(0) + made(1, 0), (0, 0), [0, 1],
        )

    def test_the_innermost_open_around_it(self):
        # The outer open takes a holder, the inner one frees.
        inner = ("keep", "x", opened("x", (), opened("x", (), ("again", "x", "v", ()))))
        self.told(inner, (("w", ()),), ("done", ("v", ())), freed(0) + made(0), (1, 0), [0])
        # The outer open frees, what is made there is opened again by the inner one, which doesn't.
        outer = opened("x", (), lets(("a", ("again", "x", "w", ())), last=(
            "keep", "a", opened("x", (), ("again", "x", "v", ("a",))),
        )))
        self.told(
            outer, (("w", ()),), ("done", ("v", (("w", ()),))), freed(0) + made(0, 1), (1, 0), [0, 1],
        )

    def test_an_open_that_is_not_around_it_leaves_it_no_place(self):
        # The open within the let's first part freed, but the one around the again didn't.
        term = ("keep", "x", opened("x", (), lets(("n", opened("x", (), ONE)), last=("again", "x", "v", ()))))
        self.told(term, (("w", ()),), ("done", ("v", ())), freed(0) + made(1), (1, 0), [1])

    def test_the_place_is_still_there_behind_asks_and_lets(self):
        rest = lets(("a", ("ask", "h", ())), ("b", ("box", "u", ())), last=("again", "x", "v", ("a", "b")))
        self.told(
            opened("x", (), rest), (("w", ()),), ("done", ("v", (4, ("u", ())))),
            freed(0) + made(1, 0), (0, 0), [0, 1],
        )
        taken = opened("x", (), lets(("a", lets(("b", ONE), last=("again", "x", "u", ()))), last=("again", "x", "v", ())))
        self.told(taken, (("w", ()),), ("done", ("v", ())), freed(0) + made(0, 1), (0, 0), [0, 1])

    def test_each_asking_has_places_of_its_own(self):
        case = lets(("a", ("ask", "f", ("y", "y"))), last=("again", "x", "v", ("a",)))
        held = (("f", ("x", "y"), (False, False), ("open", "x", (
            ("w", (), case), ("u", (), ("again", "x", "t", ())), ("s", ("b",), ("again", "x", "v", ("b",))),
        ))),)
        self.assertEqual(
            run_held(held, "f", (("w", ()), ("u", ())), 300),
            (
                ("done", ("v", (("t", ()),))),
                [("ask", "f", 2), ("freed", 0), ("ask", "f", 1), ("freed", 1), ("made", 1), ("made", 0)],
                (0, 0), [0, 1],
            ),
        )

    def test_who_has_the_old_box_has_the_new_one(self):
        # x itself is held no more when its open freed it, but is what was made there.
        term = opened("x", ("n",), lets(("a", ("again", "x", "v", ("n",))), last=("name", "x")))
        self.told(term, (("w", (5,)),), ("done", ("v", (5,))), freed(0) + made(0), (0, 0), [0])
        part = lets(("a", ("box", "w", ())), ("b", ("box", "u", ("a",))), last=opened(
            "a", (), lets(("c", ("again", "a", "v", ())), last=("name", "b")),
        ))
        self.told(
            part, (), ("done", ("u", (("v", ()),))),
            made(0, 1) + freed(0) + made(0), (0, 0), [0, 1],
        )

    def test_it_is_made_with_one_holder(self):
        term = opened("x", (), lets(("a", ("again", "x", "w", ())), last=("loose", "a", ONE)))
        self.told(term, (("w", ()),), ("done", 1), freed(0) + made(0) + freed(0), (0, 1), [])

    def within_itself(self, last):
        """A box a made again around b, which has a, and then the last term."""
        return lets(("a", ("box", "w", ())), ("b", ("box", "u", ("a",))), last=opened(
            "a", (), lets(("c", ("again", "a", "v", ("b",))), last=last),
        ))

    def test_told_within_itself_it_is_much(self):
        trail = made(0, 1) + freed(0) + made(0)
        for word in "abc":
            self.told(self.within_itself(("name", word)), (), ("much",), trail, (0, 0), [0, 1])
        self.told(self.within_itself(("box", "k", ("c",))), (), ("much",), trail + made(2), (0, 0), [0, 1, 2])

    def test_within_itself_it_may_be_there_untold(self):
        self.told(self.within_itself(("number", 3)), (), ("done", 3), left=[0, 1])
        self.told(self.within_itself(looked("c", ("p",), looked("p", ("q",), ONE, "u"), "v")), (), ("done", 1))

    def test_loosed_within_itself_all_is_broken(self):
        trail = made(0, 1) + freed(0) + made(0) + freed(0, 1)
        self.told(self.within_itself(("loose", "c", ONE)), (), ("broken",), trail, (0, 1), [])

    def test_a_row_is_turned_in_its_own_places(self):
        case = lets(("next", ("again", "row", "more", ("head", "done"))), last=("ask", "turn", ("tail", "next")))
        turn = (("turn", ("row", "done"), (False, False), ("open", "row", (
            ("end", (), ("name", "done")), ("more", ("head", "tail"), case),
        ))),)
        row = ("more", (1, ("more", (2, ("more", (3, ("end", ())))))))
        back = ("more", (3, ("more", (2, ("more", (1, ("end", ())))))))
        end, trail, counts, left = run_held(turn, "turn", (row, ("end", ())), 300)
        self.assertEqual((end, counts, left), (("done", back), (0, 0), [1, 2, 3, 4]))
        self.assertEqual(
            made_freed(trail), [deed for n in (3, 2, 1) for deed in (("freed", n), ("made", n))] + freed(0),
        )


if __name__ == "__main__":
    unittest.main()
