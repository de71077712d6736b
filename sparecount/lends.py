"""Lent names: books counted by them, and which names may be lent."""

from sparecount.books import names_in
from sparecount.counting import count_by, survey_book
from sparecount.numbers import Shown, give_numbers


def counted_by(book, marks):
    """Tell the held book that a plain one is, counted with the names lent that the marks tell."""
    return count_by(survey_book(book), marks)


def uses_in(term, asked_with):
    """Tell which names a term itself may take, each with the errand's name that takes it, or None for itself.

    asked_with are the errands' names by their words.
    """
    if term[0] in ("name", "box"):
        return [(name, None) for name in names_in(term)]
    if term[0] == "ask":
        return [(word, (term[1], name)) for word, name in zip(term[2], asked_with[term[1]])]
    return []


def uses_of(errand, sure, asked_with):
    """Tell by the names of an errand where they may be taken: lists, in order, of places and by what."""
    shown = Shown(errand, sure)
    uses = {name: [] for name in errand[1]}
    for place in shown.terms:
        for name, taker in uses_in(shown.terms[place], asked_with):
            if name in uses and name not in shown.names[place]:
                uses[name].append((place, taker))
    return uses


def uses_in_book(book):
    """Tell by (errand, name) where each name of an errand may be taken."""
    sure, _ = give_numbers(book)
    asked_with = {errand[0]: errand[1] for errand in book}
    told = {}
    for errand in book:
        uses = uses_of(errand, sure, asked_with)
        for name in errand[1]:
            told[(errand[0], name)] = uses[name]
    return told


def taken_in(uses):
    """Tell the names that are taken, each with the least place where it is."""
    taken = {}
    many = -1
    # A name that is taken may take others, until none is taken any more.
    while len(taken) > many:
        many = len(taken)
        for name in uses:
            if is_taken(uses[name], taken):
                taken[name] = True
    return {name: least_place(uses[name], taken) for name in uses if name in taken}


def is_taken(uses, taken):
    """Tell whether one of these uses takes."""
    return any([taker is None or taker in taken for place, taker in uses])


def least_place(uses, taken):
    """Tell the first place of those uses that take."""
    return [place for place, taker in uses if taker is None or taker in taken][0]


def lendable(book):
    """Tell the marks by which just the names are lent that aren't taken, and where the others are."""
    taken = taken_in(uses_in_book(book))
    marks = [tuple([(errand[0], name) not in taken for name in errand[1]]) for errand in book]
    return tuple(marks), taken
