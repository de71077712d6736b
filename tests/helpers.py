"""What the tests make their terms, things and books of, and how they look at held runs."""

import unittest

from sparecount.helds import why_no_held
from sparecount.machine import run_held

ONE = ("number", 1)
UNIT = ("unit", ())
MAKE = ("box", "unit", ())


def lets(*bound, last):
    """A term that binds word after word, each to its term, and then does the last one."""
    for word, term in reversed(bound):
        last = ("let", word, term, last)
    return last


def deeds(*said, last=ONE):
    """A term that keeps and looses, one after another, and then does the last one."""
    for kind, word in reversed(said):
        last = (kind, word, last)
    return last


def opened(name, words, term, box="w"):
    """An open with one case."""
    return ("open", name, ((box, words, term),))


def looked(name, words, term, box="w"):
    """A look with one case."""
    return ("look", name, ((box, words, term),))


def held_of(term, names=("x", "y", "z")):
    """A held book of an errand f, of g, which gives its first name, and h, which gives 4."""
    return (
        ("f", names, (False,) * len(names), term),
        ("g", ("a", "b"), (False, False), ("name", "a")),
        ("h", (), (), ("number", 4)),
    )


def nested(within, inner=UNIT):
    """A thing that has the inner one within so many boxes."""
    for _ in range(within):
        inner = ("w", (inner,))
    return inner


def boxes(many):
    """A thing with so many boxes, none within more than a few others."""
    if many == 0:
        return 0
    left = (many - 1) // 3
    middle = (many - 1 - left) // 2
    return ("w", (boxes(left), boxes(middle), boxes(many - 1 - left - middle)))


def count_boxes(thing):
    """How many boxes a thing has, each as often as it stands there."""
    return 0 if isinstance(thing, int) else 1 + sum(count_boxes(part) for part in thing[1])


def made_freed(trail):
    """What was made and freed, in order."""
    return [deed for deed in trail if deed[0] != "ask"]


def made(*numbers):
    """What is told where boxes are made, one after another."""
    return [("made", number) for number in numbers]


def freed(*numbers):
    """What is told where boxes are freed, one after another."""
    return [("freed", number) for number in numbers]


class Told(unittest.TestCase):
    """Runs the errand f of a book with x, y and z around, as many as there are things."""

    def run_of(self, term, *things, most=300):
        held = held_of(term, ("x", "y", "z")[:len(things)])
        self.assertIn(why_no_held(held), (None, "great"))
        return run_held(held, "f", things, most)

    def told(self, term, things, end, trail=None, counts=None, left=None):
        """What a run tells: its end, what was made and freed, the counts, and what is left."""
        with self.subTest(term=term, things=things):
            told = self.run_of(term, *things)
            self.assertEqual(told[0], end)
            if trail is not None:
                self.assertEqual(made_freed(told[1]), trail)
            if counts is not None:
                self.assertEqual(told[2], counts)
            if left is not None:
                self.assertEqual(told[3], left)

    def breaks(self, term, *things, most=300):
        """What touches a freed box."""
        with self.subTest(term=term, things=things):
            self.assertEqual(self.run_of(term, *things, most=most)[0], ("broken",))
