"""[22] The desk: which rows it takes, what it answers, and what it refuses."""

import unittest

from sparecount import desk
from sparecount.counted import counted
from sparecount.desk import Desk
from sparecount.errors import NoAsking, NoBook, NoRow, NoStand, NoText, TooMany
from sparecount.fewest import fewest
from sparecount.lends import counted_by, lendable
from sparecount.texts import read_book, show_held

TURN = "\n".join((
    "turn row done = open row {end: done; more h t: let next be box more(h, done) in turn(t, next)}",
    "grow n = zero n {box end()} else {let one be 1 in let m be n - one in let t be grow(m) in box more(n, t)}",
    "sum row = open row {end: 0; more h t: let n be sum(t) in h + n}",
    "all n = let r be grow(n) in let s be sum(r) in let e be box end() in let t be turn(r, e) in "
    "let u be sum(t) in s + u",
    "both n m = n - m",
))
OTHER = "f = 7\ntwin = let x be box w() in box p(x, x)"


class Seated(unittest.TestCase):
    def setUp(self):
        self.desk = Desk()
        self.assertEqual(self.desk.say("book\n" + TURN), "ok")

    def told(self, answers):
        for row, answer in answers.items():
            with self.subTest(row=row):
                told = self.desk.say(row)
                self.assertEqual(told, answer)
                self.assertIs(type(told), str)

    def refused(self, error, *rows):
        for row in rows:
            with self.subTest(row=row), self.assertRaises(error):
                self.desk.say(row)


class Interface(unittest.TestCase):
    def test_it_is_defined_in_its_file(self):
        self.assertEqual(desk.Desk.__module__, "sparecount.desk")
        self.assertIn("say", vars(Desk))


class Book(Seated):
    def test_a_book_is_taken(self):
        self.assertEqual(Desk().say("book\nf = 1"), "ok")
        self.assertEqual(Desk().say("book\n" + TURN), "ok")

    def test_another_book_stands_in_its_place(self):
        self.told({"run both 7 3": "done 4", "book\n" + OTHER: "ok", "run f": "done 7"})
        self.refused(NoAsking, "run both 7 3")

    def test_texts_that_are_refused(self):
        self.refused(NoText, "book\n", "book\n\nf = 1", "book\nf = 1\n", "book\nf  = 1", "book\n f = 1", "book\nf = 01")
        self.refused(
            NoText, "book\nf = 1000", "book\nf = " + "9" * 5000, "book\nabcdefghi = 1", "book\nf a b c d e = 1",
            "book\nf x = box w(x, x, x, x)", "book\nf x x = 1\ng = 1000", "book" + "\nf = 1" * 7,
        )
        self.refused(NoBook, "book\nf = x", "book\nf x x = 1")

    def test_the_fault_of_what_is_no_book(self):
        for text, fault in (("f = x", "names"), ("f x = " + "zero x {" * 20 + "1" + "} else {2}" * 20, "great")):
            with self.assertRaises(NoBook) as caught:
                self.desk.say("book\n" + text)
            self.assertEqual(caught.exception.fault, fault)

    def test_what_is_refused_changes_nothing(self):
        for row, error in (
            ("book\nf = ", NoText), ("book\nf = x", NoBook), ("book", NoRow), ("run f", NoAsking), ("fewer", NoRow),
            ("run both 1 2 3", NoAsking), ("", NoRow), ("book\nf = 1000", NoText), ("book\nf a b c d e = 1", NoText),
        ):
            self.refused(error, row)
            self.told({"run both 1 2": "done 999", "run sum 1": "stuck"})


class Run(Seated):
    def test_done_with_a_number(self):
        self.told({
            "run both 12 5": "done 7", "run both 0 1": "done 999", "run both 999 999": "done 0", "run all 3": "done 12",
            "run all 0": "done 0",
        })
        self.told({"book\n" + OTHER: "ok", "run f": "done 7"})

    def test_a_box(self):
        self.told({"run grow 3": "box", "run grow 0": "box", "book\n" + OTHER: "ok", "run twin": "box"})

    def test_much_is_a_box(self):
        self.told({"run grow 59": "box", "run grow 60": "box", "run grow 200": "box"})
        self.told({"book\nf = let a be box w() in let b be box w(a, a, a) in let c be box w(b, b, b) in "
                   "let d be box w(c, c, c) in let e be box w(d, d, d) in box w(e, e, e)": "ok", "run f": "box"})

    def test_stuck(self):
        self.told({"run sum 4": "stuck", "run turn 1 2": "stuck"})

    def test_long_behind_three_hundred_asks(self):
        self.told({"run grow 299": "box", "run grow 300": "long", "run grow 999": "long"})
        self.told({"book\nf n = zero n {7} else {let a be 1 in let b be n - a in f(b)}\ng = g()": "ok"})
        self.told({"run f 299": "done 7", "run f 300": "long", "run g": "long"})

    def test_no_asking(self):
        self.refused(
            NoAsking, "run other", "run other 1", "run both", "run both 1", "run both 1 2 3", "run grow",
            "run grow 1 2", "run both" + " 1" * 40,
        )


class Texts(Seated):
    def test_counted(self):
        self.told({"counted": show_held(counted(read_book(TURN)))})
        self.told({"book\nf x = box p(x, x)\ng x y = f(y)": "ok"})
        self.told({"counted": "f x = keep x; box p(x, x)\ng x y = loose x; f(y)"})

    def test_lent(self):
        book = read_book(TURN)
        self.told({"lent": show_held(counted_by(book, lendable(book)[0]))})
        self.told({"book\nf x = box p(x, x)\ng x y = f(y)\nh = let a be box w() in i(a)\ni a = 1": "ok"})
        self.told({"lent": "f x = keep x; box p(x, x)\ng &x y = f(y)\n"
                           "h = let a be box w() in let qa be i(a) in loose a; qa\ni &a = 1"})

    def test_fewest(self):
        self.told({"fewest": str(fewest(read_book(TURN))[0])})
        for text, answer in (("f x = 1", "0"), ("f = let x be box w() in box p(x, x)", "1"),
                             ("f = let x be box w() in box p(x, x, x)", "2")):
            self.told({"book\n" + text: "ok", "fewest": answer})

    def test_fewest_of_more_than_eight_names(self):
        self.told({"book\nf a b c d = 1\ng a b c d = 2": "ok", "fewest": "0"})
        self.told({"book\nf a b c d = 1\ng a b c d = 2\nh a = 3": "ok"})
        self.refused(TooMany, "fewest")
        self.told({"lent": "f &a &b &c &d = 1\ng &a &b &c &d = 2\nh &a = 3"})


class Held(Seated):
    def test_keeps_looses_and_boxes_made(self):
        self.told({"held all 3": "0 2 8", "held grow 4": "0 0 5", "held both 4 1": "0 0 0"})
        self.told({"book\nf n = let x be box w(n) in let y be box v(x, x, n) in box p(y, y, y)\n"
                   "g n = let x be box w() in 7": "ok"})
        self.told({"held f 1": "3 0 3", "held g 3": "0 1 1"})

    def test_it_is_the_book_counted_with_names_lent(self):
        # Counted with nothing lent, a would be kept for the ask, and loosed in g.
        self.told({"book\nf = let a be box w() in let b be g(a) in box p(a, a)\ng a = box v()": "ok"})
        self.told({"held f": "1 1 3", "lent": "f = let a be box w() in let b be g(a) in loose b; keep a; box p(a, a)\n"
                                             "g &a = box v()"})
        self.told({"counted": "f = let a be box w() in let b be keep a; g(a) in loose b; keep a; box p(a, a)\n"
                              "g a = loose a; box v()"})

    def test_keeps_and_looses_that_find_no_box_are_not_counted(self):
        self.told({"book\nf x y = zero y {box p(x, x)} else {1}": "ok", "held f 1 0": "0 0 1", "held f 1 1": "0 0 0"})

    def test_runs_that_are_not_done(self):
        self.told({"held sum 4": "0 0 0", "held turn 3 3": "0 0 0"})
        self.told({"held grow 299": "0 0 300", "held grow 300": "0 0 0"})
        self.told({"book\nf n = let a be box w(n) in let b be box v(a, a) in f(n)": "ok", "held f 0": "300 300 600"})

    def test_no_asking(self):
        self.refused(NoAsking, "held other", "held both", "held both 1", "held both 1 2 3")


class Rows(Seated):
    """Rows that are none by their words, whether a book stands or not."""

    WRONG = (
        "", " ", "\n", "book", "book ", "book f = 1", "Book\nf = 1", "book \nf = 1", " book\nf = 1", "books\nf = 1",
        "\nbook\nf = 1", "run", "run ", " run f", "run  f", "run f ", "run f  1", "run F", "run f1", "run 1",
        "run f g", "run f -1", "run f +1", "run f 1,2", "run f 1.", "run f 00", "run f 01", "run f 007",
        "run f 0000", "run f 1000", "run f 0999", "run f 1 02", "run f 1 2 x", "run abcdefghi", "run let 1",
        "run be", "run in 1", "run f\n", "run f 1\n", "run f\n1", "run\nf", "run f\t1", "Run f", "held", "held ",
        "held f ", "held F", "held f 1000", "held f 01", "held open", "held  f", "held f 1 ", "heldf", "counted ",
        " counted", "counted f", "counted 1", "counted\n", "Counted", "count", "lent ", "lent f", " lent", "lent\n",
        "fewest ", "fewest 1", "fewest f", "fewest\n", "few", "look", "let", "f", "7", "run f 1 2 3 4 1000",
        "run f  ", "runf 1", "run f 1\nbook\nf = 1", "again f", "say",
    )

    def test_with_a_book(self):
        self.refused(NoRow, *self.WRONG)
        self.told({"run both 5 4": "done 1"})

    def test_without_a_book(self):
        self.desk = Desk()
        self.refused(NoRow, *self.WRONG)

    def test_signs_that_are_figures_elsewhere(self):
        self.refused(NoRow, "run grow \u0663", "run grow \u00b2", "run \u00e9")

    def test_numbers_of_one_to_three_figures(self):
        for number in (0, 1, 9, 10, 99, 100, 101, 990, 999):
            self.told({f"run both {number} 0": f"done {number}"})


class NoBookYet(unittest.TestCase):
    def test_no_stand(self):
        for row in ("run f", "run f 1 2", "held f", "held f 0", "counted", "lent", "fewest"):
            with self.subTest(row=row), self.assertRaises(NoStand):
                Desk().say(row)

    def test_no_stand_behind_a_book_that_was_refused(self):
        for row, error in (("book\nf = ", NoText), ("book\nf = 1000", NoText), ("book\nf = x", NoBook)):
            mine = Desk()
            with self.assertRaises(error):
                mine.say(row)
            with self.assertRaises(NoStand):
                mine.say("counted")
            self.assertEqual(mine.say("book\nf = 3"), "ok")
            self.assertEqual(mine.say("run f"), "done 3")

    def test_no_stand_is_ahead_of_no_asking(self):
        with self.assertRaises(NoStand):
            Desk().say("run f 1 2 3 4 5")


class Desks(unittest.TestCase):
    def test_two_desks_beside_one_another(self):
        one, other = Desk(), Desk()
        self.assertEqual(one.say("book\nf = 1"), "ok")
        with self.assertRaises(NoStand):
            other.say("run f")
        self.assertEqual(other.say("book\nf = 2"), "ok")
        self.assertEqual((one.say("run f"), other.say("run f")), ("done 1", "done 2"))
        self.assertEqual((one.say("counted"), other.say("lent")), ("f = 1", "f = 2"))

    def test_asking_changes_nothing(self):
        mine = Desk()
        mine.say("book\n" + TURN)
        rows = ("run all 4", "counted", "lent", "held all 4", "fewest")
        self.assertEqual([mine.say(row) for row in rows], [mine.say(row) for row in rows])


if __name__ == "__main__":
    unittest.main()
