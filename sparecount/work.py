"""What runs of plain books and of held ones have in common."""

from sparecount.books import find_errand, is_whole
from sparecount.errors import NoAsking, NoMost

GREATEST_MOST = 300
MOST_BOXES = 60
MOST_WITHIN = 12
MODULUS = 1000
STUCK = ("stuck",)
LONG = ("long",)
MUCH = ("much",)


class Work:
    """A run on its way: the term to do next, what its words are, and what waits.

    No word is bound twice in an errand, so one dict serves all of an asking.
    """

    def __init__(self, book, most):
        self.errands = {errand[0]: errand for errand in book}
        self.most = most
        self.asks = 0
        self.term = None
        self.worth = {}
        # Only a let has something left to do behind a part: (x, U, what words are).
        self.waiting = []

    def ask(self, word, things):
        """Begin an asking, and tell the end if there is one too many."""
        if self.asks >= self.most:
            return LONG
        self.asks += 1
        errand = self.errands[word]
        self.term = errand[-1]
        self.worth = dict(zip(errand[1], things))
        return None

    def wait(self, word, term):
        """Let a term wait for what its word will be."""
        self.waiting.append((word, term, self.worth))

    def give(self, thing):
        """Hand a thing to the term that waits for it, or tell the end where none does."""
        if not self.waiting:
            return ("done", thing)
        word, self.term, self.worth = self.waiting.pop()
        self.worth[word] = thing
        return None

    def worths(self, words):
        """Tell what words are, as a tuple."""
        return tuple([self.worth[word] for word in words])


def is_box(thing):
    """Tell of a thing whether it is a box, in whatever way a run has its boxes."""
    return not isinstance(thing, int)


def is_much(thing, things_in):
    """Tell whether a thing is too much to be told out; things_in tells what a box has.

    A box may stand in a thing more often than could ever be counted, so this
    stops at the first one too many.
    """
    boxes = 0
    todo = [(thing, 0)]
    while todo:
        part, within = todo.pop()
        if is_box(part):
            boxes += 1
            if boxes > MOST_BOXES or within > MOST_WITHIN:
                return True
            todo.extend([(inner, within + 1) for inner in things_in(part)])
    return False


def find_case(cases, word, many):
    """Tell the case that fits boxes of a word with so many parts, or None."""
    for case in cases:
        if case[0] == word and len(case[1]) == many:
            return case
    return None


def do_number(work, term):
    """Give the number that stands there."""
    return work.give(term[1])


def do_name(work, term):
    """Give what a word is."""
    return work.give(work.worth[term[1]])


def do_plus(work, term):
    """Give the sum of two numbers."""
    one, other = work.worths(term[1:])
    if is_box(one) or is_box(other):
        return STUCK
    return work.give((one + other) % MODULUS)


def do_less(work, term):
    """Give the difference of two numbers."""
    one, other = work.worths(term[1:])
    if is_box(one) or is_box(other):
        return STUCK
    return work.give((one - other) % MODULUS)


def do_ask(work, term):
    """Ask an errand."""
    return work.ask(term[1], work.worths(term[2]))


def do_let(work, term):
    """Do the first part, and let the second one wait for what it gives."""
    work.wait(term[1], term[3])
    work.term = term[2]
    return None


def do_zero(work, term):
    """Go on with the first part for 0, with the second one for other numbers."""
    thing = work.worth[term[1]]
    if is_box(thing):
        return STUCK
    work.term = term[2] if thing == 0 else term[3]
    return None


DEEDS = {
    "number": do_number,
    "name": do_name,
    "plus": do_plus,
    "less": do_less,
    "ask": do_ask,
    "let": do_let,
    "zero": do_zero,
}


def do_common(work, term):
    """Do a term that makes and opens no box itself, and tell the end if it comes to it."""
    deed = DEEDS[term[0]]
    return deed(work, term)


def do_all(work, word, things, do_term):
    """Ask an errand, do term after term, and tell the end."""
    end = work.ask(word, things)
    while end is None:
        end = do_term(work, work.term)
    return end


def need_asking(book, word, things):
    """Refuse with NoAsking an asking that fits no errand of the book."""
    errand = find_errand(book, word)
    if errand is None:
        raise NoAsking("the book has no such errand")
    if not isinstance(things, tuple) or len(things) != len(errand[1]):
        raise NoAsking("the errand has another number of names")


def need_most(most):
    """Refuse with NoMost what is no number of asks that a run may be given."""
    if not is_whole(most) or not 0 <= most <= GREATEST_MOST:
        raise NoMost("the most is no whole number from 0 to 300")
