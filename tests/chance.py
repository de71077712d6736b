"""Books and things made by chance, the same ones each time: each is made from a seed."""

import random

# The words of boxes, each with the sorts of its parts. An open that is made
# with a case for each of them is never stuck.
BOXES = {"e": "", "s": "b", "p": "nb", "t": "bnb"}
ERRANDS = "fghijk"


class Maker:
    """Makes a book whose names are of two sorts, n for numbers and b for boxes, but for some slips."""

    def __init__(self, seed, most_names=4):
        self.chance = random.Random(seed)
        self.most_names = most_names
        self.asked = {}
        self.bound = 0
        self.left = 0
        self.at = 0

    def odds(self, share):
        return self.chance.random() < share

    def book(self):
        for word in ERRANDS[:self.chance.choice((1, 2, 2, 3, 3, 4, 6))]:
            sorts = [self.chance.choice("bbn") for _ in range(self.chance.randint(0, self.most_names))]
            self.asked[word] = ("".join(sorts), self.chance.choice("bbn"))
        return tuple([self.errand(at, word) for at, word in enumerate(self.asked)])

    def errand(self, at, word):
        self.at = at
        self.bound = 0
        self.left = self.chance.randint(1, 14)
        sorts, gives = self.asked[word]
        around = [(self.new_name(), sort) for sort in sorts]
        return (word, tuple([name for name, _ in around]), self.term(around, gives, 0))

    def new_name(self):
        """A name that the errand doesn't have yet, now and then one that counting would take."""
        self.bound += 1
        letters = "abcdefghijklmnopqrstuvwxyz"
        low, high = self.bound % 26, self.bound // 26
        if high == 0 and self.odds(0.1):
            return "q" + letters[low]
        return "v" + letters[high] + letters[low]

    def pick(self, around, sort):
        """A name that is around, as a rule one of this sort, or None."""
        names = [name for name, its in around if its == sort or self.odds(0.02)]
        if not names:
            return None
        return self.chance.choice(names[-3:] if self.odds(0.6) else names)

    def picks(self, around, sorts):
        """Names of these sorts, or None where there is none for one of them."""
        names = [self.pick(around, sort) for sort in sorts]
        return None if None in names else tuple(names)

    def term(self, around, sort, within):
        self.left -= 1
        if within >= 10 or self.left <= 0 or self.odds(0.1):
            return self.last(around, sort)
        kind = self.chance.choice(("let", "let", "let", "zero", "open", "open"))
        if kind == "open" and self.pick(around, "b"):
            name = self.pick(around, "b") or around[0][0]
            # What is opened is mostly not needed any more, so that it is freed.
            needed = [pair for pair in around if pair[0] != name or self.odds(0.3)]
            return ("open", name, self.cases(needed, sort, within))
        if kind == "zero" and self.pick(around, "n"):
            name = self.pick(around, "n") or around[0][0]
            return ("zero", name, self.term(around, sort, within + 1), self.term(around, sort, within + 1))
        bound = self.chance.choice("bbn")
        first = self.term(around, bound, within + 1) if self.odds(0.4) else self.last(around, bound)
        name = self.new_name()
        return ("let", name, first, self.term(around + [(name, bound)], sort, within + 1))

    def cases(self, around, sort, within):
        words = list(BOXES) if self.odds(0.8) else self.chance.sample(list(BOXES), 2)
        cases = []
        for word in words:
            more = [(self.new_name(), its) for its in BOXES[word]]
            part = self.term(around + more, sort, within + 1)
            cases.append((word, tuple([name for name, _ in more]), part))
        return tuple(cases)

    def last(self, around, sort):
        """A term without parts that gives a thing of this sort."""
        made = [self.ask(around, sort), self.ask(around, sort)]
        name = self.pick(around, sort)
        if name:
            made.append(("name", name))
        if sort == "b":
            made.extend([self.box(around), self.box(around)])
        else:
            made.append(("number", self.chance.choice((0, 0, 1, 2, 999))))
            names = self.picks(around, "nn")
            if names:
                made.append((self.chance.choice(("plus", "less")),) + names)
        made = [term for term in made if term]
        return self.chance.choice(made) if made else ("box", "e", ())

    def box(self, around):
        word = self.chance.choice(list(BOXES))
        names = self.picks(around, BOXES[word])
        return ("box", word, names) if names is not None else None

    def ask(self, around, sort):
        """An ask, as a rule of a later errand, as otherwise few runs would ever be done."""
        words = list(self.asked)[0 if self.odds(0.1) else self.at + 1:]
        words = [word for word in words if self.asked[word][1] == sort]
        if not words:
            return None
        word = self.chance.choice(words)
        names = self.picks(around, self.asked[word][0])
        return ("ask", word, names) if names is not None else None

    def thing(self, sort, within=0):
        if self.odds(0.02):
            sort = "n"
        if sort == "n":
            return self.chance.choice((0, 0, 1, 2))
        word = self.chance.choice(list(BOXES)) if within < 3 else "e"
        return (word, tuple([self.thing(its, within + 1) for its in BOXES[word]]))

    def things(self, word):
        """Things to ask an errand with."""
        return tuple([self.thing(sort) for sort in self.asked[word][0]])

    def marks(self, book):
        return tuple([tuple([self.odds(0.5) for _ in errand[1]]) for errand in book])


class Rebuilder(Maker):
    """Makes a book whose errands open a box and make another one of its parts, as most that is done in place does."""

    def book(self):
        for word in ERRANDS[:self.chance.choice((1, 2, 3))]:
            self.asked[word] = ("b", "b")
        return tuple([self.errand(at, word) for at, word in enumerate(self.asked)])

    def term(self, around, sort, within):
        return ("open", around[0][0], tuple([self.rebuilt_case(word) for word in BOXES]))

    def rebuilt_case(self, word):
        names = [self.new_name() for _ in BOXES[word]]
        asked = [self.new_name() if its == "b" and self.odds(0.6) else None for its in BOXES[word]]
        parts = [other or name for name, other in zip(names, asked)]
        term = self.rebuilt_box(word, parts)
        for name, other in zip(names, asked):
            if other:
                term = ("let", other, ("ask", self.chance.choice(list(self.asked)), (name,)), term)
        return (word, tuple(names), term)

    def rebuilt_box(self, word, parts):
        """What a case ends with: a box of its parts, or that one within others, or ahead of others."""
        box = ("box", word, tuple(parts))
        name = self.new_name()
        last = self.chance.choice((box, box, ("box", "s", (name,)), ("box", "e", ()), ("name", name)))
        return last if last == box else ("let", name, box, last)
