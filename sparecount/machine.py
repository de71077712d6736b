"""Held runs: what a held book tells where the holders of its boxes are counted."""

from sparecount.books import names_in
from sparecount.work import (
    MUCH,
    STUCK,
    Work,
    do_all,
    do_common,
    find_case,
    is_box,
    is_much,
    need_asking,
    need_most,
)

BROKEN = ("broken",)


class Box:
    """A box of a held run, or the place of one that was freed: then it has no holders.

    What is made in another's place is that one made anew, so that all who have
    it have what is made.
    """

    def __init__(self, number):
        self.number = number
        self.word = None
        self.parts = ()
        self.holders = 0


class Machine(Work):
    """A held run on its way: its boxes, its trail, and what was kept and loosed."""

    def __init__(self, held, most):
        super().__init__(held, most)
        self.boxes = []
        self.held = 0
        self.trail = []
        self.keeps = 0
        self.looses = 0
        # By the names that the opens around opened: a list of the box that was
        # freed so, until an again takes it out, or an empty one.
        self.spares = {}
        self.waiting_spares = []

    def ask(self, word, things):
        """Begin an asking, and tell the end if there is one too many."""
        end = super().ask(word, things)
        if end is None:
            self.spares = {}
            self.trail.append(("ask", word, self.held))
        return end

    def wait(self, word, term):
        """Let a term wait for what its word will be."""
        super().wait(word, term)
        self.waiting_spares.append(self.spares)

    def give(self, thing):
        """Hand a thing to the term that waits for it, or tell the end where none does."""
        if self.waiting_spares:
            self.spares = self.waiting_spares.pop()
        return super().give(thing)

    def new_box(self):
        """Tell a new box, still without holders, with the next number."""
        box = Box(len(self.boxes))
        self.boxes.append(box)
        return box

    def fill(self, box, word, parts):
        """Make a box out of what its holders were handed."""
        box.word = word
        box.parts = parts
        box.holders = 1
        self.held += 1

    def free(self, box):
        """Free a box."""
        box.holders = 0
        self.held -= 1
        self.trail.append(("freed", box.number))

    def loose(self, box):
        """Take a holder from a box, and from the parts of what is freed so; tell if all broke."""
        todo = [box]
        while todo:
            part = todo.pop()
            if is_gone(part):
                return BROKEN
            if is_box(part) and part.holders == 1:
                self.free(part)
                todo.extend(part.parts[::-1])
            elif is_box(part):
                part.holders -= 1
        return None


def is_gone(thing):
    """Tell of a thing whether it is a box that was freed."""
    return is_box(thing) and thing.holders == 0


def parts_in(box):
    """Tell what a box has."""
    return box.parts


def take_in(machine, thing):
    """Make the boxes of a thing that is handed in, each behind its parts, and tell the thing."""
    done = []
    todo = [(thing, False)]
    while todo:
        part, are_parts_done = todo.pop()
        if not is_box(part):
            done.append(part)
        elif are_parts_done:
            start = len(done) - len(part[1])
            box = machine.new_box()
            machine.fill(box, part[0], tuple(done[start:]))
            done = done[:start] + [box]
        else:
            todo.append((part, True))
            todo.extend([(inner, False) for inner in part[1][::-1]])
    return done[0]


def are_all_held(thing):
    """Tell whether no box of a thing was freed, though boxes may stand within themselves."""
    seen = set()
    todo = [thing]
    while todo:
        part = todo.pop()
        if is_gone(part):
            return False
        if is_box(part) and part.number not in seen:
            seen.add(part.number)
            todo.extend(part.parts)
    return True


def told_as(thing):
    """Tell a thing that is not much as a number or a tuple."""
    if not is_box(thing):
        return thing
    return (thing.word, tuple([told_as(part) for part in thing.parts]))


def tell_out(thing):
    """Tell the end of a run that gives a thing."""
    if not are_all_held(thing):
        return BROKEN
    if is_much(thing, parts_in):
        return MUCH
    return ("done", told_as(thing))


def give_made(machine, box, word, words):
    """Make a box of what words are, and give it."""
    machine.fill(box, word, machine.worths(words))
    machine.trail.append(("made", box.number))
    return machine.give(box)


def do_box(machine, term):
    """Make a box with a number of its own, and give it."""
    return give_made(machine, machine.new_box(), term[1], term[2])


def do_again(machine, term):
    """Make a box in the place of what an open around freed, if that is still to be had."""
    spare = machine.spares[term[1]]
    box = spare.pop() if spare else machine.new_box()
    return give_made(machine, box, term[2], term[3])


def enter_case(machine, term):
    """Go on with the case that fits a box, and tell the end where none does."""
    box = machine.worth[term[1]]
    if not is_box(box):
        return STUCK
    case = find_case(term[2], box.word, len(box.parts))
    if case is None:
        return STUCK
    machine.worth.update(dict(zip(case[1], box.parts)))
    machine.term = case[2]
    return None


def do_open(machine, term):
    """Go on with the case that fits a box, and hand its parts' holders to the words."""
    end = enter_case(machine, term)
    if end is not None:
        return end
    box = machine.worth[term[1]]
    spare = []
    if box.holders == 1:
        machine.free(box)
        spare.append(box)
    else:
        box.holders -= 1
        end = keep_parts(box)
    machine.spares = {**machine.spares, term[1]: spare}
    return end


def keep_parts(box):
    """Give each part of a box one holder more, and tell if all broke."""
    for part in box.parts:
        if is_gone(part):
            return BROKEN
        if is_box(part):
            part.holders += 1
    return None


def do_keep(machine, term):
    """Give a box one holder more."""
    thing = machine.worth[term[1]]
    if is_box(thing):
        thing.holders += 1
        machine.keeps += 1
    machine.term = term[2]
    return None


def do_loose(machine, term):
    """Take one holder from a box."""
    thing = machine.worth[term[1]]
    if is_box(thing):
        machine.looses += 1
    machine.term = term[2]
    return machine.loose(thing)


DEEDS = {
    "box": do_box,
    "again": do_again,
    "open": do_open,
    "look": enter_case,
    "keep": do_keep,
    "loose": do_loose,
}


def do_held(machine, term):
    """Do a term of a held book, and tell the end if it comes to it."""
    if any([is_gone(machine.worth[word]) for word in names_in(term)]):
        return BROKEN
    if term[0] not in DEEDS:
        return do_common(machine, term)
    deed = DEEDS[term[0]]
    return deed(machine, term)


def run_held(held, word, things, most):
    """Ask an errand of a held book, and tell (end, trail, (keeps, looses), boxes left)."""
    need_asking(held, word, things)
    need_most(most)
    machine = Machine(held, most)
    taken = [take_in(machine, thing) for thing in things]
    end = do_all(machine, word, taken, do_held)
    if end[0] == "done":
        end = tell_out(end[1])
    left = [box.number for box in machine.boxes if box.holders > 0]
    return end, machine.trail, (machine.keeps, machine.looses), left
