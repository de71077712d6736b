"""How keeps and looses are put into a plain book, whichever of its names are lent."""

from sparecount.books import bound_in, names_in, parts_of, rebuilt
from sparecount.numbers import Shown, give_numbers

LETTERS = "abcdefghijklmnopqrstuvwxyz"


class Survey:
    """What is to be known of an errand to count it, whatever is lent."""

    def __init__(self, errand, sure):
        shown = Shown(errand, sure)
        self.word = errand[0]
        self.asked_with = errand[1]
        self.terms = shown.terms
        self.shown = shown.names
        self.named = names_within(shown.terms)
        self.taken = words_of(errand)


class Count:
    """An errand that is being counted: which names its terms own and borrow, place by place.

    Names that are shown numbers at a place are neither owned nor borrowed
    there. lents are the marks by the errands' words.
    """

    def __init__(self, survey, lents):
        self.survey = survey
        self.lents = lents
        self.owned = {}
        self.borrowed = {}
        # By the places of asks that have looses behind: the new words for what they give.
        self.fresh = {}
        # A part's names hang on those of the term that it is a part of, which comes ahead of it.
        for place in survey.terms:
            self.owned[place] = self.unshown(place, self.owned_at(place))
            self.borrowed[place] = self.unshown(place, self.borrowed_at(place))
            if self.loosed_behind(place):
                self.fresh[place] = new_word(survey.taken, list(self.fresh.values()))

    def unshown(self, place, names):
        """Tell those of some names that aren't shown numbers at a place."""
        return [name for name in names if name not in self.survey.shown[place]]

    def owned_at(self, place):
        """Tell what a term owns, shown a number or not, in the order in which it was bound."""
        if len(place) > 1:
            return self.owned_by_part(place[:-1], place[-1])
        lent = self.lents[self.survey.word]
        return [name for name, truth in zip(self.survey.asked_with, lent) if not truth]

    def borrowed_at(self, place):
        """Tell what a term borrows, shown a number or not."""
        if len(place) > 1:
            return self.borrowed_by_part(place[:-1], place[-1])
        lent = self.lents[self.survey.word]
        return [name for name, truth in zip(self.survey.asked_with, lent) if truth]

    def owned_by_part(self, above, at):
        """Tell what a part owns, of what its term owns and of what is bound for it."""
        term = self.survey.terms[above]
        owned = self.owned_and_named(above)
        if term[0] == "let":
            behind = self.survey.named[above + (1,)]
            if at == 0:
                return [name for name in owned if name not in behind]
            return [name for name in owned if name in behind] + [term[1]]
        if term[0] == "open" and term[1] not in self.borrowed[above]:
            left = [name for name in owned if name != term[1] or self.is_opened_and_named(above, name)]
            return left + list(term[2][at][1])
        return owned

    def borrowed_by_part(self, above, at):
        """Tell what a part borrows, of what its term has and of what is bound for it."""
        term = self.survey.terms[above]
        borrowed = self.borrowed[above]
        if term[0] == "let" and at == 0:
            behind = self.survey.named[above + (1,)]
            return borrowed + [name for name in self.owned_and_named(above) if name in behind]
        if term[0] == "open" and term[1] in borrowed:
            return borrowed + list(term[2][at][1])
        return borrowed

    def owned_and_named(self, place):
        """Tell the owned names that a term names."""
        return [name for name in self.owned[place] if name in self.survey.named[place]]

    def is_opened_and_named(self, place, name):
        """Tell whether a term opens a name that is named in some case, too."""
        term = self.survey.terms[place]
        if term[0] != "open" or term[1] != name:
            return False
        return any([name in self.survey.named[place + (at,)] for at in range(len(term[2]))])

    def words_asked(self, place, is_lent):
        """Tell the words that an ask has for lent names, or for the others."""
        term = self.survey.terms[place]
        return [word for word, truth in zip(term[2], self.lents[term[1]]) if truth == is_lent]

    def lent_words(self, place):
        """Tell the words that a term asks for lent names."""
        return self.words_asked(place, True) if self.survey.terms[place][0] == "ask" else []

    def handed_words(self, place):
        """Tell the words of which a term uses up a holder, each as often as it does."""
        term = self.survey.terms[place]
        if term[0] == "ask":
            return self.words_asked(place, False)
        return list(names_in(term)) if term[0] in ("name", "box") else []

    def loosed_ahead(self, place):
        """Tell the owned names that a term doesn't name."""
        return [name for name in self.owned[place] if name not in self.survey.named[place]]

    def kept_ahead(self, place):
        """Tell the names that are kept ahead of a term, as often as they are."""
        handed = self.handed_words(place)
        kept = [name for name in self.owned[place] if self.is_opened_and_named(place, name)]
        for word in {first: True for first in handed}:
            kept.extend([word] * self.keeps_needed(place, word, handed.count(word)))
        return kept

    def keeps_needed(self, place, word, many):
        """Tell how often a word is kept of which a term uses up so many holders."""
        if word in self.borrowed[place]:
            return many
        if word in self.owned[place]:
            return many if word in self.lent_words(place) else many - 1
        return 0

    def loosed_behind(self, place):
        """Tell the owned names that a term asks for lent ones: those are left when the ask is done."""
        lent = self.lent_words(place)
        return [name for name in self.owned[place] if name in lent]

    def said_at(self, place, term):
        """Tell what a term becomes whose parts are counted already."""
        if term[0] == "open" and term[1] in self.borrowed[place]:
            term = ("look",) + term[1:]
        if place in self.fresh:
            word = self.fresh[place]
            term = ("let", word, term, say_ahead("loose", self.loosed_behind(place), ("name", word)))
        term = say_ahead("keep", self.kept_ahead(place), term)
        return say_ahead("loose", self.loosed_ahead(place), term)


def names_within(terms):
    """Tell by the places of an errand's terms, in order, a dict of the names that they name, with their parts."""
    named = {}
    for place in reversed(list(terms)):
        term = terms[place]
        named[place] = {name: True for name in names_in(term)}
        for at in range(len(parts_of(term))):
            named[place].update(named[place + (at,)])
    return named


def words_of(errand):
    """Tell all words that an errand of a plain book has, of whatever sort, as a dict."""
    words = {word: True for word in (errand[0],) + errand[1]}
    todo = [errand[2]]
    while todo:
        term = todo.pop()
        words.update({word: True for word in words_in(term)})
        todo.extend(parts_of(term))
    return words


def words_in(term):
    """Tell all words that a term of a plain book itself has, of whatever sort."""
    if term[0] == "number":
        return []
    words = [term[1]] + list(names_in(term)) + list(bound_in(term))
    if term[0] == "open":
        words.extend([case[0] for case in term[2]])
    return words


def new_word(taken, fresh):
    """Tell the first of the new words that is neither taken nor among the fresh ones."""
    number = 0
    while letters_for(number) in taken or letters_for(number) in fresh:
        number += 1
    return letters_for(number)


def letters_for(number):
    """Tell the new word for a number: a q, and the number's figures, with letters for them."""
    letters = LETTERS[number % 26]
    number = number // 26
    while number > 0:
        letters = LETTERS[number % 26] + letters
        number = number // 26
    return "q" + letters


def say_ahead(kind, names, term):
    """Tell a term with a keep or a loose of each name ahead of it, in order."""
    for name in names[::-1]:
        term = (kind, name, term)
    return term


def survey_book(book):
    """Tell what is to be known of each errand of a plain book to count it, as a list."""
    sure, _ = give_numbers(book)
    return [Survey(errand, sure) for errand in book]


def count_by(surveys, marks):
    """Tell the held book that a plain one is, counted by these marks."""
    lents = {survey.word: lent for survey, lent in zip(surveys, marks)}
    errands = []
    for survey, lent in zip(surveys, marks):
        count = Count(survey, lents)
        errands.append((survey.word, survey.asked_with, lent, rebuilt(survey.terms, count.said_at)))
    return tuple(errands)
