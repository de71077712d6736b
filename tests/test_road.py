"""[3] What is promised over the whole program, looked at in books of many kinds, made by chance."""

import unittest
from unittest import mock

from chance import Maker, Rebuilder
from sparecount import machine
from sparecount.books import all_places, names_in, parts_of, term_at, why_no_book, with_parts
from sparecount.counted import counted
from sparecount.even import uneven_at
from sparecount.helds import why_no_held
from sparecount.lends import counted_by, lendable
from sparecount.machine import run_held
from sparecount.numbers import give_numbers
from sparecount.places import in_place, places_needed
from sparecount.plain import run
from sparecount.texts import read_book, show_book, show_held
from written import held, plain

SEEDS = range(100)


def free_names(term):
    """The names of a term that are bound around it."""
    kind = term[0]
    if kind == "let":
        return free_names(term[2]) | (free_names(term[3]) - {term[1]})
    names = set(names_in(term))
    if kind in ("open", "look"):
        for _, words, part in term[2]:
            names |= free_names(part) - set(words)
    else:
        for part in parts_of(term):
            names |= free_names(part)
    return names


def come_to(things):
    """The numbers of the boxes that are come to from things of a held run."""
    found = set()
    todo = list(things)
    while todo:
        thing = todo.pop()
        if not isinstance(thing, int) and thing.number not in found:
            found.add(thing.number)
            todo.extend(thing.parts)
    return found


class Watched(machine.Machine):
    """A held run that looks, whenever an errand is asked, whether each held box is still come to."""

    runs = []

    def __init__(self, book, most):
        super().__init__(book, most)
        self.unreached = []
        self.given = None
        self.named = {}
        Watched.runs.append(self)

    def ask(self, word, things):
        end = super().ask(word, things)
        if end is None:
            known = list(things)
            for bound, term, worth in self.waiting:
                if id(term) not in self.named:
                    self.named[id(term)] = free_names(term) - {bound}
                known.extend([worth[name] for name in self.named[id(term)]])
            held_now = {box.number for box in self.boxes if box.holders > 0}
            self.unreached.append(held_now - come_to(known))
        return end

    def give(self, thing):
        self.given = thing
        return super().give(thing)


def watched(book, word, things, most):
    """What is told of a held run, and the run."""
    Watched.runs.clear()
    with mock.patch.object(machine, "Machine", Watched):
        told = run_held(book, word, things, most)
    return told, Watched.runs[0]


def count_boxes(thing):
    return 0 if isinstance(thing, int) else 1 + sum(count_boxes(part) for part in thing[1])


def lent_boxes(lent, things):
    """The numbers of the boxes of those things that are lent."""
    numbers = set()
    first = 0
    for truth, thing in zip(lent, things):
        many = count_boxes(thing)
        numbers |= set(range(first, first + many)) if truth else set()
        first += many
    return numbers


def with_one_left_out(term):
    """The terms that a term is with one of its keeps and looses left out."""
    told = [term[2]] if term[0] in ("keep", "loose") else []
    parts = parts_of(term)
    for at, part in enumerate(parts):
        for other in with_one_left_out(part):
            told.append(with_parts(term, parts[:at] + (other,) + parts[at + 1:]))
    return told


def books_with_one_left_out(book):
    for at, errand in enumerate(book):
        for term in with_one_left_out(errand[3]):
            yield book[:at] + (errand[:3] + (term,),) + book[at + 1:]


def ways_to_lend(maker, book):
    """Nothing, what may be lent, everything, and some by chance."""
    none, every = [tuple([(truth,) * len(errand[1]) for errand in book]) for truth in (False, True)]
    return [none, lendable(book)[0], every, maker.marks(book), maker.marks(book)]


class Road(unittest.TestCase):
    def same(self, plain_book, held_book, word, things, most):
        """A plain run and a held one of the same book."""
        end, asks, made = run(plain_book, word, things, most)
        told, its = watched(held_book, word, things, most)
        self.assertEqual(told[0], end)
        self.assertEqual(len([deed for deed in told[1] if deed[0] == "ask"]), asks)
        self.assertEqual(len([deed for deed in told[1] if deed[0] == "made"]), made)
        lent = lent_boxes([errand[2] for errand in held_book if errand[0] == word][0], things)
        self.assertLessEqual(set().union(*its.unreached), lent)
        if end[0] in ("done", "much"):
            self.assertEqual(set(told[3]), come_to([its.given]) | lent)
        return end


class ByChance(Road):
    def test_books_counted(self):
        ends = {"done": 0, "stuck": 0, "long": 0, "much": 0}
        for seed in SEEDS:
            maker = Maker(seed)
            book = maker.book()
            self.assertIn(why_no_book(book), (None, "great"))
            marks = ways_to_lend(maker, book)
            self.assertEqual(counted_by(book, marks[0]), counted(book))
            for lent in marks:
                told = counted_by(book, lent)
                with self.subTest(seed=seed, book=book, lent=lent):
                    self.assertEqual(tuple([errand[2] for errand in told]), lent)
                    self.assertIn(why_no_held(told), (None, "great"))
                    self.assertIsNone(uneven_at(told))
                    for errand in book:
                        end = self.same(book, told, errand[0], maker.things(errand[0]), maker.chance.choice((3, 60)))
                        ends[end[0]] += 1
        self.assertGreater(min(ends["done"], ends["stuck"], ends["long"]), 50, ends)

    def test_no_saying_can_be_left_out(self):
        for seed in SEEDS:
            maker = Maker(seed)
            book = maker.book()
            for lent in ways_to_lend(maker, book)[:4]:
                others = list(books_with_one_left_out(counted_by(book, lent)))
                for other in maker.chance.sample(others, min(len(others), 5)):
                    with self.subTest(seed=seed, lent=lent, other=other):
                        self.assertIsNotNone(uneven_at(other))

    def test_what_surely_gives_a_number_does(self):
        done = 0
        for seed in SEEDS:
            maker = Maker(seed)
            book = maker.book()
            sure, doubts = give_numbers(book)
            self.assertEqual(give_numbers(counted(book))[0], sure)
            for word in sure:
                end = run(book, word, maker.things(word), 60)[0]
                with self.subTest(seed=seed, word=word):
                    self.assertIn(end[0], ("done", "stuck", "long"))
                    if end[0] == "done":
                        done += 1
                        self.assertIsInstance(end[1], int)
        self.assertGreater(done, 20)

    def test_lent_names_take_nothing_and_others_are_shown_to_be_taken(self):
        for seed in SEEDS:
            book = Maker(seed).book()
            marks, taken = lendable(book)
            told = counted_by(book, marks)
            names = {errand[0]: errand[1] for errand in book}
            lent = {(errand[0], name): truth for errand in told for name, truth in zip(errand[1], errand[2])}
            with self.subTest(seed=seed, book=book):
                self.assertEqual({key for key in lent if not lent[key]}, set(taken))
                for (word, name), place in taken.items():
                    term = term_at(book, place)
                    self.assertEqual(place[0], word)
                    self.assertIn(name, names_in(term))
                    if term[0] == "ask":
                        others = [other for at, other in zip(term[2], names[term[1]]) if at == name]
                        self.assertTrue(any((term[1], other) in taken for other in others))
                    else:
                        self.assertIn(term[0], ("name", "box"))
                # Nothing is kept of a lent name but where it is shown a number.
                for errand in told:
                    for place in [place for place in all_places(told) if place[0] == errand[0]]:
                        term = term_at(told, place)
                        if term[0] == "keep" and term[1] in errand[1]:
                            self.assertFalse(lent[(errand[0], term[1])])


def unnumbered(trail):
    """A trail without the numbers of boxes."""
    return [deed if deed[0] == "ask" else deed[0] for deed in trail]


class WholeRoad(Road):
    """A book read from its text, counted, put in another's place, looked over and run."""

    def test_in_another_place(self):
        fewer = agains = 0
        for seed in SEEDS:
            maker = Maker(seed) if seed % 2 else Rebuilder(seed)
            book = maker.book()
            if why_no_book(book) is None:
                book = read_book(show_book(book))
            for lent in ways_to_lend(maker, book)[:3]:
                old = counted_by(book, lent)
                new = in_place(old)
                agains += new != old
                with self.subTest(seed=seed, lent=lent, book=book):
                    self.assertIn(why_no_held(new), (None, "great"))
                    self.assertIsNone(uneven_at(new))
                    self.assertEqual(held(*show_held(new).split("\n")), new)
                    for errand in book:
                        fewer += self.places_saved(book, old, new, errand[0], maker.things(errand[0]))
        self.assertGreater(min(agains, fewer), 50)

    def places_saved(self, book, old, new, word, things):
        """How many places fewer are needed, where all else is the same but for the numbers of boxes."""
        end = self.same(book, new, word, things, 60)
        before, after = run_held(old, word, things, 60), run_held(new, word, things, 60)
        self.assertEqual((before[0], after[0]), (end, end))
        self.assertEqual(unnumbered(after[1]), unnumbered(before[1]))
        self.assertEqual((after[2], len(after[3])), (before[2], len(before[3])))
        self.assertLessEqual(places_needed(after[1]), places_needed(before[1]))
        return places_needed(before[1]) - places_needed(after[1])


class EvenOnesAreNeverBroken(Road):
    """Whatever book is told even, counted or not, is never broken, and holds nothing else when it is done."""

    def changed(self, maker, term, around):
        """A term with some of its deeds changed by chance."""
        chance = maker.chance
        if around and maker.odds(0.02):
            name, kind = chance.choice(around), chance.choice(("keep", "loose", "plus", "name", "other"))
            if kind in ("keep", "loose"):
                term = (kind, name, term)
            elif kind in ("plus", "name"):
                term = (kind, name) + ((name,) if kind == "plus" else ())
            elif term[0] in ("open", "look"):
                term = ("open" if term[0] == "look" else "look",) + term[1:]
            elif term[0] in ("keep", "loose"):
                term = term[2]
            elif term[0] in ("box", "ask") and term[2]:
                term = term[:2] + ((name,) + term[2][1:],)
        parts = []
        for at, part in enumerate(parts_of(term)):
            more = []
            if term[0] == "let" and at == 1:
                more = [term[1]]
            elif term[0] in ("open", "look"):
                more = list(term[2][at][1])
            parts.append(self.changed(maker, part, around + more))
        return with_parts(term, tuple(parts))

    def test_changed_ones(self):
        seen = {"even": 0, "uneven": 0, "broken": 0, "done": 0}
        for seed in SEEDS:
            maker = Maker(seed)
            book = maker.book()
            base = counted_by(book, maker.marks(book))
            for _ in range(8):
                other = tuple([errand[:3] + (self.changed(maker, errand[3], list(errand[1])),) for errand in base])
                if other == base or why_no_held(other) not in (None, "great"):
                    continue
                is_even = uneven_at(other) is None
                seen["even" if is_even else "uneven"] += 1
                for errand in other:
                    things = maker.things(errand[0])
                    told, its = watched(other, errand[0], things, 60)
                    with self.subTest(seed=seed, other=other):
                        if not is_even:
                            seen["broken"] += told[0][0] == "broken"
                            continue
                        self.assertNotEqual(told[0][0], "broken")
                        if told[0][0] == "done":
                            seen["done"] += 1
                            lent = lent_boxes(errand[2], things)
                            self.assertEqual(set(told[3]), come_to([its.given]) | lent)
        self.assertGreater(min(seen.values()), 20, seen)


class Known(Road):
    """Some books whose numbers of sayings and of held boxes are known."""

    TURN = (
        "turn row done = open row {end: done; more h t: let next be box more(h, done) in turn(t, next)}",
        "sum row = open row {end: 0; more h t: let n be sum(t) in h + n}",
        "both row = let n be sum(row) in let end be box end() in let back be turn(row, end) in box pair(n, back)",
    )

    def row(self, *numbers):
        thing = ("end", ())
        for number in reversed(numbers):
            thing = ("more", (number, thing))
        return thing

    def test_a_row_that_is_turned_holds_no_more_than_before(self):
        book = plain(*self.TURN)
        told, _ = watched(counted(book), "turn", (self.row(1, 2, 3), self.row()), 300)
        self.assertEqual(told[0], ("done", self.row(3, 2, 1)))
        self.assertEqual(told[2], (0, 0))
        self.assertEqual({deed[2] for deed in told[1] if deed[0] == "ask"}, {5})
        self.assertEqual(len(told[3]), 4)

    def test_errands_that_only_look_need_not_take(self):
        book = plain(*self.TURN)
        marks, taken = lendable(book)
        self.assertEqual(marks, ((True, False), (True,), (True,)))
        self.assertEqual(taken, {("turn", "done"): ("turn", 0)})
        for lent, sayings in ((((False, False), (False,), (False,)), (1, 0)), (marks, (0, 1))):
            told = counted_by(book, lent)
            self.assertIsNone(uneven_at(told))
            self.same(book, told, "both", (self.row(1, 2, 3),), 300)

    def test_a_summed_row_that_is_lent_stays_as_it_was(self):
        book = plain(*self.TURN)
        told, _ = watched(counted_by(book, ((False, False), (True,), (False,))), "sum", (self.row(7, 8, 9),), 300)
        self.assertEqual(told[0], ("done", 24))
        self.assertEqual((told[2], told[3]), ((0, 0), [0, 1, 2, 3]))
        told, _ = watched(counted(book), "sum", (self.row(7, 8, 9),), 300)
        self.assertEqual((told[0], told[2], told[3]), (("done", 24), (0, 0), []))

    def test_a_row_in_hand_twice_is_kept_for(self):
        book = plain(*self.TURN)
        self.assertEqual(counted(book)[2], held(
            "both row = let n be keep row; sum(row) in let end be box end() in "
            "let back be turn(row, end) in box pair(n, back)",
        )[0])
        told, _ = watched(counted(book), "both", (self.row(4, 5),), 300)
        self.assertEqual(told[0], ("done", ("pair", (9, self.row(5, 4)))))
        self.assertEqual(told[2], (1, 0))


if __name__ == "__main__":
    unittest.main()
