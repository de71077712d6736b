"""Plain runs: what a book tells by itself, with no holders counted."""

from sparecount.work import (
    MUCH,
    STUCK,
    Work,
    do_all,
    do_common,
    find_case,
    is_box,
    is_much,
    need_asking,
    need_most,
)


class PlainWork(Work):
    """A plain run on its way: its boxes are the tuples that they are told as."""

    def __init__(self, book, most):
        super().__init__(book, most)
        self.made = 0


def things_in(box):
    """Tell what a box has."""
    return box[1]


def do_box(work, term):
    """Make a box and give it."""
    work.made += 1
    return work.give((term[1], work.worths(term[2])))


def do_open(work, term):
    """Go on with the case that fits a box."""
    thing = work.worth[term[1]]
    if not is_box(thing):
        return STUCK
    word, parts = thing
    case = find_case(term[2], word, len(parts))
    if case is None:
        return STUCK
    work.worth.update(dict(zip(case[1], parts)))
    work.term = case[2]
    return None


def do_plain(work, term):
    """Do a term of a plain book, and tell the end if it comes to it."""
    if term[0] == "box":
        return do_box(work, term)
    if term[0] == "open":
        return do_open(work, term)
    return do_common(work, term)


def run(book, word, things, most):
    """Ask an errand of a book, and tell (end, asks begun, boxes made)."""
    need_asking(book, word, things)
    need_most(most)
    work = PlainWork(book, most)
    end = do_all(work, word, things, do_plain)
    if end[0] == "done" and is_much(end[1], things_in):
        end = MUCH
    return end, work.asks, work.made
