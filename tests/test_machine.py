"""[12] Held runs, with [8] and [9]. Also [2] and [3]: what is handed in stays, and books counted."""

import copy
import unittest

from helpers import (
    MAKE, ONE, UNIT, Told, boxes, count_boxes, deeds, freed, held_of, lets, looked, nested, opened,
)
from sparecount import machine
from sparecount.errors import NoAsking, NoMost
from sparecount.helds import why_no_held
from sparecount.machine import run_held
from sparecount.plain import run


class PlainDeeds(Told):
    """[8] What held runs do as plain ones do."""

    def gives(self, thing, term, *things):
        self.told(term, things, ("done", thing))

    def sticks(self, term, *things):
        self.told(term, things, ("stuck",))

    def test_numbers(self):
        self.gives(7, ("number", 7))
        self.gives(0, ("plus", "x", "y"), 999, 1)
        self.gives(7, ("plus", "x", "y"), 3, 4)
        self.gives(997, ("less", "x", "y"), 4, 7)
        self.gives(0, ("less", "x", "x"), 4)

    def test_names_asks_and_lets(self):
        self.gives(UNIT, ("name", "y"), 1, UNIT)
        self.gives(4, ("ask", "h", ()))
        self.gives(8, ("ask", "g", ("y", "x")), 7, 8)
        self.gives(9, ("let", "a", ("plus", "x", "y"), ("plus", "a", "x")), 2, 5)
        self.gives(12, ("let", "b", ("let", "a", ("ask", "h", ()), ("plus", "a", "x")), ("plus", "b", "x")), 4)

    def test_boxes(self):
        self.gives(UNIT, MAKE)
        self.gives(("v", (6, UNIT, 5)), ("box", "v", ("y", "z", "x")), 5, 6, UNIT)

    def test_zero(self):
        for n, thing in ((0, 3), (1, UNIT), (999, UNIT)):
            self.gives(thing, ("zero", "x", ("number", 3), MAKE), n)

    def test_open_and_look(self):
        for kind in ("open", "look"):
            cases = (("k", ("a", "b"), ("less", "a", "b")), ("l", (), ONE), ("m", ("c",), ("name", "c")))
            term = (kind, "x", cases)
            self.gives(6, term, ("k", (9, 3)))
            self.gives(1, term, ("l", ()))
            self.gives(UNIT, term, ("m", (UNIT,)))

    def test_keep_and_loose_go_on_with_their_part(self):
        for kind in ("keep", "loose"):
            for thing in (5, UNIT):
                self.gives(3, (kind, "x", ("number", 3)), thing)

    def test_stuck(self):
        for kind in ("plus", "less"):
            for things in ((UNIT, 1), (1, UNIT), (UNIT, UNIT)):
                self.sticks((kind, "x", "y"), *things)
        for thing in (UNIT, ("k", (0,))):
            self.sticks(("zero", "x", ONE, ONE), thing)
        for kind in ("open", "look"):
            term = (kind, "x", (("k", (), ONE), ("l", ("a", "b"), ONE)))
            for thing in (0, 1, 999, ("m", ()), ("m", (1, 2)), ("k", (1,)), ("l", ()), ("l", (1,)), ("l", (1, 2, 3))):
                self.sticks(term, thing)

    def test_stuck_changes_no_holders(self):
        thing = ("w", (UNIT,))
        for kind in ("open", "look"):
            stuck = (kind, "x", (("w", (), ONE), ("unit", ("a",), ONE)))
            self.told(stuck, (thing,), ("stuck",), [], (0, 0), [0, 1])
            self.told(("keep", "x", stuck), (thing,), ("stuck",), [], (1, 0), [0, 1])

    def test_words_are_those_of_each_asking(self):
        term = ("zero", "n", ("number", 0), lets(
            ("a", ONE), ("m", ("less", "n", "a")), ("s", ("ask", "sum", ("m",))), last=("plus", "s", "n"),
        ))
        end, trail, counts, left = run_held((("sum", ("n",), (False,), term),), "sum", (10,), 300)
        self.assertEqual((end, counts, left), (("done", 55), (0, 0), []))
        self.assertEqual(trail, [("ask", "sum", 0)] * 11)


class Broken(Told):
    """[12] What touches boxes that were freed."""

    def touching(self, word):
        """Terms whose first deed names a word."""
        return (
            ("name", word), ("plus", word, "n"), ("plus", "n", word), ("less", word, "n"), ("less", "n", word),
            ("box", "w", (word,)), ("box", "w", ("n", "u", word)), ("ask", "g", (word, "n")),
            ("ask", "g", ("u", word)), ("zero", word, ONE, ONE), ("keep", word, ONE), ("loose", word, ONE),
            opened(word, (), ONE, "unit"), looked(word, (), ONE, "unit"), opened(word, (), ONE, "other"),
            looked(word, (), ONE, "other"), opened("o", (), ("again", "o", "w", (word,))),
            opened("o", (), ("again", "o", "w", ("u", word))),
        )

    def gone(self, term):
        """A term done with a number n, a box u, a box o to be opened, and a box x that was freed."""
        return lets(
            ("n", ONE), ("u", MAKE), ("o", ("box", "w", ())), ("x", MAKE), ("m", ("loose", "x", ONE)), last=term,
        )

    def test_each_deed_that_names_a_freed_box(self):
        for term in self.touching("x"):
            self.breaks(self.gone(term))
            self.told(self.gone(lets(("t", term), last=MAKE)), (), ("broken",), counts=(0, 1))

    def test_none_that_names_others(self):
        for word in ("u", "n"):
            for term in self.touching(word):
                with self.subTest(term=term):
                    self.assertNotEqual(self.run_of(self.gone(term))[0], ("broken",))

    def test_an_again_doesnt_touch_its_z(self):
        self.told(opened("x", (), ("again", "x", "w", ())), (("w", ()),), ("done", ("w", ())))
        self.breaks(opened("x", (), ("again", "x", "w", ("x",))), ("w", ()))
        term = ("keep", "x", opened("x", (), ("loose", "x", ("again", "x", "w", ()))))
        self.told(term, (("w", ()),), ("done", ("w", ())))

    def test_freed_by_open(self):
        for last in (("name", "x"), ("keep", "x", ONE), ("loose", "x", ONE), opened("x", (), ONE)):
            self.breaks(opened("x", (), last), ("w", ()))

    def test_freed_with_the_box_that_had_it(self):
        term = looked("x", ("a",), ("loose", "x", ("name", "a")))
        self.breaks(term, ("w", (UNIT,)))
        self.told(term, (("w", (5,)),), ("done", 5))

    def test_nothing_more_is_done(self):
        thrice = deeds(("loose", "x"), ("loose", "x"), ("loose", "x"), last=MAKE)
        term = lets(("a", ("keep", "x", MAKE)), ("b", thrice), last=MAKE)
        self.assertEqual(
            self.run_of(term, UNIT),
            (("broken",), [("ask", "f", 1), ("made", 1), ("freed", 0)], (1, 2), [1]),
        )

    def test_naming_without_a_deed_touches_nothing(self):
        # A part that was freed is not touched by a look, nor by an open that frees the box.
        for kind in ("look", "open"):
            term = looked("x", ("a",), ("loose", "a", (kind, "x", (("w", ("b",), ("number", 3)),))))
            self.told(term, (("w", (UNIT,)),), ("done", 3))

    def test_open_touches_the_parts_that_it_gives_a_holder_more(self):
        term = looked("x", ("a", "b"), ("loose", "b", ("keep", "x", opened("x", ("c", "d"), MAKE))))
        told = self.run_of(term, ("w", (UNIT, UNIT)))
        self.assertEqual(told, (("broken",), [("ask", "f", 3), ("freed", 1)], (1, 1), [0, 2]))

    def test_loose_touches_the_parts_of_what_it_frees(self):
        term = looked("x", ("a", "b"), ("loose", "b", ("loose", "x", MAKE)))
        told = self.run_of(term, ("w", (UNIT, UNIT)))
        self.assertEqual(told, (("broken",), [("ask", "f", 3), ("freed", 1), ("freed", 2), ("freed", 0)], (0, 2), []))
        term = looked("x", ("a", "b"), ("loose", "a", ("loose", "x", MAKE)))
        told = self.run_of(term, ("w", (UNIT, UNIT)))
        self.assertEqual(told, (("broken",), [("ask", "f", 3), ("freed", 0), ("freed", 2)], (0, 2), [1]))

    def test_loose_that_frees_nothing_touches_no_parts(self):
        term = looked("x", ("a",), ("loose", "a", ("keep", "x", ("loose", "x", ("number", 3)))))
        self.told(term, (("w", (UNIT,)),), ("done", 3), freed(0), (1, 2), [1])

    def test_telling_a_thing_touches_all_its_boxes(self):
        term = looked("x", ("a",), looked("a", ("b",), ("loose", "b", ("name", "x"))))
        self.told(term, (nested(2),), ("broken",), freed(0), (0, 1), [1, 2])
        self.told(("let", "n", ("loose", "y", ONE), ("name", "x")), (UNIT, UNIT), ("done", UNIT), freed(1), (0, 1), [0])

    def test_giving_a_thing_to_a_let_touches_it_alone(self):
        term = looked("x", ("a",), ("loose", "a", ("let", "b", ("name", "x"), ("number", 3))))
        self.told(term, (("w", (UNIT,)),), ("done", 3))

    def test_broken_is_ahead_of_stuck(self):
        for term in (
            ("plus", "u", "x"), ("plus", "x", "u"), ("less", "u", "x"), ("less", "x", "x"), ("zero", "x", ONE, ONE),
            opened("x", (), ONE, "other"), looked("x", (), ONE, "other"),
        ):
            self.breaks(self.gone(term))

    def test_broken_is_ahead_of_long(self):
        for most, end in ((1, ("broken",)), (2, ("broken",)), (300, ("broken",)), (0, ("long",))):
            told = self.run_of(("loose", "x", ("ask", "g", ("x", "y"))), UNIT, 5, most=most)
            self.assertEqual(told[0], end)
            told = self.run_of(("loose", "x", ("ask", "g", ("y", "x"))), UNIT, 5, most=most)
            self.assertEqual(told[0], end)
        self.assertEqual(self.run_of(("loose", "x", ("ask", "g", ("y", "y"))), UNIT, 5, most=1)[0], ("long",))

    def test_broken_is_ahead_of_much(self):
        row = nested(30)
        term = looked("x", ("a",), ("loose", "a", ("name", "x")))
        self.breaks(term, row)
        wide = ("w", (boxes(50), boxes(50)))
        for word in "ab":
            self.breaks(looked("x", ("a", "b"), ("loose", word, ("name", "x"))), wide)
        self.told(looked("x", ("a", "b"), ("name", "x")), (wide,), ("much",))
        # A box that stands within itself, and one behind it that was freed.
        term = lets(("a", ("box", "w", ())), ("b", ("box", "u", ("a", "x"))), last=opened("a", (), lets(
            ("c", ("again", "a", "v", ("b",))), last=("loose", "x", ("name", "c")),
        )))
        self.breaks(term, UNIT)
        self.told(term, (5,), ("much",))

    def test_it_is_not_broken_by_what_was_made_anew_in_the_place(self):
        for last in (("name", "x"), ("keep", "x", ONE), ("loose", "x", ONE), opened("x", (), ONE)):
            term = opened("x", (), lets(("a", ("again", "x", "w", ())), last=last))
            with self.subTest(last=last):
                self.assertEqual(self.run_of(term, ("w", ()))[0][0], "done")
        twice = opened("x", (), lets(("a", ("again", "x", "w", ())), last=("loose", "a", ("name", "x"))))
        self.breaks(twice, ("w", ()))


class Runs(Told):
    """[12] What is told of a run."""

    def test_the_trail_in_its_order(self):
        term = lets(
            ("a", ("box", "w", ("x",))), ("b", ("ask", "g", ("a", "y"))), ("n", ("ask", "h", ())),
            last=opened("b", ("c",), ("loose", "c", ("ask", "g", ("y", "n")))),
        )
        told = self.run_of(term, UNIT, ("w", (UNIT,)))
        self.assertEqual(told, (
            ("done", ("w", (UNIT,))),
            [
                ("ask", "f", 3), ("made", 3), ("ask", "g", 4), ("ask", "h", 4), ("freed", 3), ("freed", 0),
                ("ask", "g", 2),
            ],
            (0, 1), [1, 2],
        ))

    def test_counts(self):
        term = deeds(
            ("keep", "x"), ("keep", "x"), ("keep", "y"), ("loose", "x"), ("loose", "y"), ("loose", "z"),
            last=("name", "z"),
        )
        self.told(term, (UNIT, 5, 6), ("done", 6), [], (2, 1), [0])

    def test_loosed_parts_of_a_freed_box_are_not_counted(self):
        self.told(("loose", "x", ONE), (boxes(30),), ("done", 1), counts=(0, 1), left=[])

    def test_a_loose_that_broke_all_by_its_parts_is_counted(self):
        term = looked("x", ("a",), ("loose", "a", ("loose", "x", ONE)))
        self.told(term, (("w", (UNIT,)),), ("broken",), freed(0, 1), (0, 2), [])

    def test_a_keep_or_loose_that_found_no_box_is_not_counted(self):
        for kind in ("keep", "loose"):
            self.told(("loose", "x", (kind, "x", ONE)), (UNIT,), ("broken",), freed(0), (0, 1), [])

    def test_holders_that_an_open_gives_are_not_counted(self):
        self.told(("keep", "x", opened("x", ("a",), ONE)), (("w", (UNIT,)),), ("done", 1), [], (1, 0), [0, 1])

    def test_what_is_told_at_each_end(self):
        for last, end in (
            (ONE, ("done", 1)), (("plus", "u", "u"), ("stuck",)), (("name", "z"), ("much",)),
            (("ask", "h", ()), ("long",)), (("loose", "y", ONE), ("broken",)),
        ):
            term = ("keep", "x", ("loose", "y", ("let", "u", MAKE, last)))
            told = self.run_of(term, UNIT, UNIT, nested(13), most=1)
            self.assertEqual(told, (
                end, [("ask", "f", 16), ("freed", 1), ("made", 16)], (1, 1), [0, *range(2, 17)],
            ))

    def test_what_is_left_is_rising(self):
        term = opened("x", ("a",), lets(("b", MAKE), ("c", MAKE), last=("loose", "b", ("again", "x", "w", ("c",)))))
        self.told(term, (nested(1), UNIT), ("done", nested(1)), left=[0, 1, 2, 4])

    def test_kinds_of_what_is_told(self):
        told = self.run_of(("box", "w", ("x",)), UNIT)
        self.assertEqual([type(part) for part in told], [tuple, list, tuple, list])
        self.assertEqual(told[0], ("done", ("w", (UNIT,))))
        for deed in told[1]:
            self.assertIsInstance(deed, tuple)


class Much(Told):
    """[9] Things that are too much to be told out."""

    def test_sixty_and_sixty_one_boxes(self):
        for many in (1, 40, 59, 60):
            self.told(("name", "x"), (boxes(many),), ("done", boxes(many)), left=list(range(many)))
        for many in (61, 62, 100):
            self.told(("name", "x"), (boxes(many),), ("much",), left=list(range(many)))

    def test_within_twelve_and_thirteen_others(self):
        for within in (0, 11, 12):
            self.told(("name", "x"), (nested(within),), ("done", nested(within)))
        for within in (13, 14, 30):
            self.told(("name", "x"), (nested(within),), ("much",))
        self.told(("name", "x"), (nested(13, 5),), ("done", nested(13, 5)))
        self.told(("name", "x"), (nested(14, 5),), ("much",))

    def test_a_box_is_counted_as_often_as_it_stands_there(self):
        double = ("double", ("n", "what"), (False, False), ("zero", "n", ("name", "what"), lets(
            ("one", ONE), ("m", ("less", "n", "one")),
            ("two", ("keep", "what", ("box", "w", ("what", "what")))), last=("ask", "double", ("m", "two")),
        )))
        thing = UNIT
        for n in range(5):
            self.assertEqual(run_held((double,), "double", (n, UNIT), 300)[0], ("done", thing))
            thing = ("w", (thing, thing))
        for n in (5, 6, 299):
            end, trail, counts, left = run_held((double,), "double", (n, UNIT), 300)
            self.assertEqual((end, counts, left), (("much",), (n, 0), list(range(n + 1))))


class Long(unittest.TestCase):
    """[9] More asks than the most."""

    COUNT_DOWN = ("f", ("n",), (False,), (
        "zero", "n", ("number", 5), lets(("a", ONE), ("b", ("less", "n", "a")), last=("ask", "f", ("b",))),
    ))

    def test_the_first_ask_is_counted(self):
        held = held_of(("number", 7), ("x",))
        self.assertEqual(run_held(held, "f", (UNIT,), 0), (("long",), [], (0, 0), [0]))
        self.assertEqual(run_held(held, "f", (UNIT,), 1), (("done", 7), [("ask", "f", 1)], (0, 0), [0]))

    def test_as_many_as_the_most_and_one_more(self):
        for n in (0, 1, 5, 299):
            with self.subTest(n=n):
                asks = [("ask", "f", 0)]
                self.assertEqual(
                    run_held((self.COUNT_DOWN,), "f", (n,), n + 1), (("done", 5), asks * (n + 1), (0, 0), []),
                )
                self.assertEqual(run_held((self.COUNT_DOWN,), "f", (n,), n), (("long",), asks * n, (0, 0), []))
        self.assertEqual(run_held((self.COUNT_DOWN,), "f", (300,), 300)[0], ("long",))

    def test_boxes_held_until_then(self):
        held = (("f", ("x",), (False,), ("let", "a", ("box", "w", ("x",)), ("ask", "f", ("a",)))),)
        for most in (0, 1, 40, 300):
            end, trail, counts, left = run_held(held, "f", (0,), most)
            self.assertEqual((end, counts, left), (("long",), (0, 0), list(range(most))))
            self.assertEqual(trail, [deed for n in range(most) for deed in (("ask", "f", n), ("made", n))])

    def test_asks_that_wait_for_one_another(self):
        held = (("f", (), (), ("let", "a", ("ask", "f", ()), ("name", "a"))),)
        for most in (1, 300):
            self.assertEqual(run_held(held, "f", (), most), (("long",), [("ask", "f", 0)] * most, (0, 0), []))


class Refusals(unittest.TestCase):
    """[9] NoAsking, then NoMost."""

    HELD = (("f", ("x", "y"), (True, False), ("plus", "x", "y")), ("g", (), (), ONE))
    NO_MOSTS = (-1, 301, -300, 10 ** 59, -(10 ** 59), True, False, None, "", "5", (), (5,), [5], {}, {5: 5})

    def test_errands_that_there_are_not(self):
        for word in ("h", "x", "", "F", "ff", "open", None, 0, True, ("f",), [], {}):
            with self.subTest(word=word), self.assertRaises(NoAsking):
                run_held(self.HELD, word, (), 300)

    def test_another_number_of_things(self):
        for word, things in (("f", ()), ("f", (1,)), ("f", (1, 2, 3)), ("g", (1,)), ("g", (UNIT, 2))):
            with self.subTest(word=word, things=things), self.assertRaises(NoAsking):
                run_held(self.HELD, word, things, 300)
        self.assertEqual(run_held(self.HELD, "f", (1, 2), 300)[0], ("done", 3))
        self.assertEqual(run_held(self.HELD, "g", (), 300)[0], ("done", 1))

    def test_a_most_that_is_no_such_number(self):
        for most in self.NO_MOSTS:
            with self.subTest(most=most), self.assertRaises(NoMost):
                run_held(self.HELD, "f", (1, 2), most)
        for most in (1, 2, 299, 300):
            self.assertEqual(run_held(self.HELD, "f", (1, 2), most)[0], ("done", 3))
        self.assertEqual(run_held(self.HELD, "f", (1, 2), 0)[0], ("long",))

    def test_no_asking_is_ahead_of_no_most(self):
        for most in self.NO_MOSTS:
            for word, things in (("h", ()), ("f", ()), ("f", (1, 2, 3)), ("g", (1,))):
                with self.subTest(word=word, things=things, most=most), self.assertRaises(NoAsking):
                    run_held(self.HELD, word, things, most)


class Counted(unittest.TestCase):
    """[3] Books whose holders are said as they should be tell what they tell by themselves."""

    # Sums the numbers of a row, and gives the row of the sums so far.
    PLAIN = (
        ("sums", ("n", "row"), ("open", "row", (
            ("end", (), ("box", "end", ())),
            ("more", ("head", "tail"), lets(
                ("s", ("plus", "n", "head")), ("rest", ("ask", "sums", ("s", "tail"))),
                last=("box", "more", ("s", "rest")),
            )),
        ))),
        ("twice", ("row",), lets(
            ("o", ("number", 0)), ("one", ("ask", "sums", ("o", "row"))), ("other", ("ask", "sums", ("o", "row"))),
            last=("box", "pair", ("one", "other")),
        )),
    )
    HELD = (
        ("sums", ("n", "row"), (False, False), PLAIN[0][2]),
        ("twice", ("row",), (False,), lets(
            ("o", ("number", 0)), ("one", ("keep", "row", ("ask", "sums", ("o", "row")))),
            ("other", ("ask", "sums", ("o", "row"))), last=("box", "pair", ("one", "other")),
        )),
    )
    LENT = (
        ("sums", ("n", "row"), (False, True), ("look", *PLAIN[0][2][1:])),
        ("twice", ("row",), (True,), PLAIN[1][2]),
    )

    def rows(self):
        row = ("end", ())
        for n in range(12):
            yield row
            row = ("more", (n * 37, row))

    def test_what_is_told_and_what_is_held_then(self):
        for row in self.rows():
            for word, things in (("sums", (5, row)), ("twice", (row,))):
                with self.subTest(word=word, row=row):
                    plain = run(self.PLAIN, word, things, 300)[0]
                    told = run_held(self.HELD, word, things, 300)
                    self.assertEqual(told[0], plain)
                    self.assertEqual(len(told[3]), count_boxes(plain[1]))

    def test_what_was_lent_is_held_besides(self):
        for many, row in enumerate(self.rows(), 1):
            plain, asks, made = run(self.PLAIN, "twice", (row,), 300)
            told = run_held(self.LENT, "twice", (row,), 300)
            self.assertEqual((told[0], told[2], told[3]), (plain, (0, 0), list(range(many + made))))


class HandedIn(unittest.TestCase):
    """[2] Nothing that is handed in is changed or kept, and what is told is the asker's own."""

    def test_what_is_handed_in_stays_as_it_was(self):
        things = (3, ("w", (1, UNIT)))
        term = opened("row", ("a", "b"), ("again", "row", "v", ("b", "n")))
        held = (("f", ("n", "row"), (True, False), term),)
        before = copy.deepcopy((held, things))
        for _ in range(3):
            told = run_held(held, "f", things, 300)
            self.assertEqual(told, (
                ("done", ("v", (UNIT, 3))), [("ask", "f", 2), ("freed", 1), ("made", 1)], (0, 0), [0, 1],
            ))
            self.assertEqual((held, things), before)
            told[1].clear()
            told[3].clear()

    def test_books_greater_than_held_ones(self):
        term = deeds(*[("keep", "x")] * 100, *[("loose", "x")] * 100, last=("name", "x"))
        held = (("f", ("x",), (False,), term),)
        self.assertEqual(why_no_held(held), "great")
        self.assertEqual(
            run_held(held, "f", (UNIT,), 1), (("done", UNIT), [("ask", "f", 1)], (100, 100), [0]),
        )
        term = ("name", "x")
        for at in range(200):
            term = ("let", "w" + "abcdefghij"[at // 20] + "abcdefghijklmnopqrst"[at % 20], term, ONE)
        self.assertEqual(run_held((("f", ("x",), (False,), term),), "f", (UNIT,), 1)[0], ("done", 1))

    def test_is_defined_in_its_file(self):
        self.assertEqual(machine.run_held.__module__, "sparecount.machine")


if __name__ == "__main__":
    unittest.main()
