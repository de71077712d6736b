"""What surely gives numbers, whatever things are: names, terms and errands."""

from sparecount.books import parts_of, placed_terms


class Shown:
    """Which names of an errand are shown to be numbers, place by place.

    names tells by a place a dict of those that are shown ahead of the term
    there; sure are the words of the errands that surely give numbers.
    """

    def __init__(self, errand, sure):
        self.sure = sure
        self.terms = dict(placed_terms(errand))
        self.names = {}
        # In order the ends of a let's T come ahead of its U, which hangs on them.
        for place in self.terms:
            self.names[place] = self.names_ahead(place)

    def names_ahead(self, place):
        """Tell the names that are shown numbers ahead of a term, by those of the terms before it."""
        if len(place) == 1:
            return {}
        above = place[:-1]
        term = self.terms[above]
        if term[0] == "let" and place[-1] == 1:
            return self.names_behind(above + (0,), term[1])
        return self.names_after(above)

    def names_after(self, place):
        """Tell the names that are shown numbers when a term's own deed is done."""
        return {**self.names[place], **{name: True for name in shown_by(self.terms[place])}}

    def names_behind(self, place, word):
        """Tell the names that are shown numbers behind a let's T, what it is bound to among them."""
        ways = [self.names_after(end) for end in self.ends(place)]
        shown = {name: True for name in ways[0] if all([name in way for way in ways])}
        if self.gives(place):
            shown[word] = True
        return shown

    def ends(self, place):
        """Tell the places of a term's ends, in order."""
        told = []
        todo = [place]
        while todo:
            at = todo.pop()
            lasts = last_parts(self.terms[at])
            todo.extend([at + (last,) for last in reversed(lasts)])
            if not lasts:
                told.append(at)
        return told

    def gives(self, place):
        """Tell whether a term surely gives a number."""
        return all([self.end_gives(end) for end in self.ends(place)])

    def end_gives(self, place):
        """Tell whether an end surely gives a number."""
        term = self.terms[place]
        if term[0] == "name":
            return term[1] in self.names[place]
        if term[0] == "ask":
            return term[1] in self.sure
        return term[0] in ("number", "plus", "less")


def shown_by(term):
    """Tell the names that are shown numbers by what a term itself does."""
    if term[0] in ("plus", "less"):
        return term[1:]
    if term[0] == "zero":
        return (term[1],)
    return ()


def last_parts(term):
    """Tell at which parts a term goes on to its ends: a list of numbers."""
    if term[0] == "let":
        return [1]
    return list(range(len(parts_of(term))))


def doubt_in(errand, sure):
    """Tell the first place of an end that doesn't surely give a number, or None."""
    shown = Shown(errand, sure)
    for place in shown.ends((errand[0],)):
        if not shown.end_gives(place):
            return place
    return None


def doubts_in(book, sure):
    """Tell by the errands in which there is one the first end that doesn't surely give a number."""
    doubts = {}
    for errand in book:
        place = doubt_in(errand, sure)
        if place is not None:
            doubts[errand[0]] = place
    return doubts


def give_numbers(book):
    """Tell the errands that surely give numbers, and of each other one the first doubtful end."""
    # What asks an errand may give numbers only as long as that one does, so
    # the greatest list is what is left when none has to be taken out any more.
    sure = [errand[0] for errand in book]
    doubts = doubts_in(book, sure)
    while any([word in doubts for word in sure]):
        sure = [word for word in sure if word not in doubts]
        doubts = doubts_in(book, sure)
    return sure, doubts
