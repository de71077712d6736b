"""Even books: held ones whose holders are there where they are used up, and gone at the ends."""

from sparecount.books import names_in, parts_of
from sparecount.numbers import Shown, give_numbers


class Ledger:
    """How many holders the names of an errand have, place by place, in the order of the places.

    What is shown a number at a place needs none and has any, so the number
    that stands there for it says nothing.
    """

    def __init__(self, errand, lents, sure):
        self.shown = Shown(errand, sure)
        self.terms = self.shown.terms
        self.lents = lents
        # Of the errand's names whether they are lent.
        self.lent = dict(zip(errand[1], errand[2]))
        self.looked_at = looked_names(self.terms)
        # Ahead of the terms' own deeds, and behind them.
        self.ahead = {}
        self.behind = {}
        # What is bound ahead of a term within the let's T, or the errand, that ends with it.
        self.bound = {}

    def first_uneven(self):
        """Tell the first place where it isn't so as in an even book, or None."""
        for place in self.terms:
            if self.is_behind_first_part(place) and not self.is_left_alike(place[:-1]):
                return place[:-1]
            self.enter(place)
            if not self.is_deed_even(place) or not self.is_end_even(place):
                return place
        return None

    def is_behind_first_part(self, place):
        """Tell whether a term is the U of a let."""
        return len(place) > 1 and place[-1] == 1 and self.terms[place[:-1]][0] == "let"

    def enter(self, place):
        """Set down what holders there are ahead of a term and behind its deed, and what is bound."""
        if len(place) == 1:
            self.ahead[place] = {name: 0 if lent else 1 for name, lent in self.lent.items()}
            self.bound[place] = list(self.lent)
        elif self.terms[place[:-1]][0] == "let":
            self.enter_let(place[:-1], place[-1])
        else:
            self.enter_part(place[:-1], place[-1])
        self.behind[place] = self.holders_behind(place)

    def enter_let(self, above, at):
        """Set down what there is ahead of a let's T, or of its U."""
        if at == 0:
            self.ahead[above + (0,)] = self.behind[above]
            self.bound[above + (0,)] = []
        else:
            word = self.terms[above][1]
            self.ahead[above + (1,)] = {**self.holders_left(above), **{word: 1}}
            self.bound[above + (1,)] = self.bound[above] + [word]

    def enter_part(self, above, at):
        """Set down what there is ahead of a part of another term, its case's words among it."""
        words = []
        term = self.terms[above]
        if term[0] in ("open", "look"):
            words = list(term[2][at][1])
        holders = 1 if term[0] == "open" else 0
        self.ahead[above + (at,)] = {**self.behind[above], **{word: holders for word in words}}
        self.bound[above + (at,)] = self.bound[above] + words

    def holders_behind(self, place):
        """Tell the holders of the names behind a term's own deed."""
        term = self.terms[place]
        holders = dict(self.ahead[place])
        for word in self.used_up(term):
            holders[word] -= 1
        if term[0] == "keep":
            holders[term[1]] += 1
        return holders

    def used_up(self, term):
        """Tell the words of which a term itself uses up a holder, each as often as it does."""
        if term[0] == "ask":
            return [word for word, lent in zip(term[2], self.lents[term[1]]) if not lent]
        if term[0] in ("loose", "name", "open", "box", "again"):
            return list(names_in(term))
        return []

    def is_deed_even(self, place):
        """Tell whether a term's own deed finds the holders that it uses up, and touches what is held."""
        term = self.terms[place]
        if not all([self.is_held(place, word, self.ahead[place]) for word in names_in(term)]):
            return False
        used = [word for word in self.used_up(term) if word not in self.shown.names[place]]
        if any([self.behind[place][word] < 0 for word in used]):
            return False
        return all([self.is_held(place, word, self.behind[place]) for word in self.lent_on(term)])

    def lent_on(self, term):
        """Tell the words that a term asks for lent names."""
        if term[0] != "ask":
            return []
        return [word for word, lent in zip(term[2], self.lents[term[1]]) if lent]

    def is_held(self, place, word, holders):
        """Tell whether a name is held at a place by these holders, or needs none."""
        while word not in self.shown.names[place] and holders[word] < 1:
            if word not in self.looked_at:
                return self.lent.get(word, False)
            word = self.looked_at[word]
        return True

    def is_end_even(self, place):
        """Tell whether a term is no end, or leaves no holder of what is bound within what ends with it."""
        if parts_of(self.terms[place]):
            return True
        shown = self.shown.names_after(place)
        return all([name in shown or self.behind[place][name] == 0 for name in self.bound[place]])

    def ways_through(self, place):
        """Tell of each way through a let's T what holders names have behind it that aren't shown numbers."""
        ways = []
        for end in self.shown.ends(place + (0,)):
            shown = self.shown.names_after(end)
            holders = self.behind[end]
            ways.append({name: holders[name] for name in self.behind[place] if name not in shown})
        return ways

    def is_left_alike(self, place):
        """Tell whether the ways through a let's T leave each other name as many holders."""
        ways = self.ways_through(place)
        return all([len(set([way[name] for way in ways if name in way])) < 2 for name in self.behind[place]])

    def holders_left(self, place):
        """Tell the holders of the names behind a let's T, whose ways leave them alike."""
        holders = dict(self.behind[place])
        for way in self.ways_through(place):
            holders.update(way)
        return holders


def looked_names(terms):
    """Tell by the words of looks' cases the names that are looked at there."""
    looked = {}
    for place in terms:
        term = terms[place]
        if term[0] == "look":
            looked.update({word: term[1] for case in term[2] for word in case[1]})
    return looked


def uneven_at(held):
    """Tell the first place where a held book isn't even, or None."""
    sure, _ = give_numbers(held)
    lents = {errand[0]: errand[2] for errand in held}
    for errand in held:
        place = Ledger(errand, lents, sure).first_uneven()
        if place is not None:
            return place
    return None
