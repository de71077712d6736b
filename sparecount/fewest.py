"""The fewest sayings with which a book can be counted."""

from sparecount.books import placed_terms
from sparecount.counting import count_by, survey_book
from sparecount.errors import TooMany

MOST_NAMES_IN_ALL = 8


def sayings(held):
    """Tell how many keeps and looses stand in a held book."""
    terms = [term for errand in held for place, term in placed_terms(errand)]
    return len([term for term in terms if term[0] in ("keep", "loose")])


def rows_of_truths(many):
    """Tell all rows of so many truths, as they rise."""
    rows = [()]
    for _ in range(many):
        rows = [row + (truth,) for row in rows for truth in (False, True)]
    return rows


def marks_of(book, row):
    """Tell the marks for which a row of truths stands, one for each name."""
    marks = []
    for errand in book:
        many = len(errand[1])
        marks.append(row[:many])
        row = row[many:]
    return tuple(marks)


def fewest(book):
    """Tell the fewest sayings of a book counted by any marks, and the first such marks."""
    many = sum([len(errand[1]) for errand in book])
    if many > MOST_NAMES_IN_ALL:
        raise TooMany("the book has more than eight names in all")
    surveys = survey_book(book)
    best = None
    for row in rows_of_truths(many):
        marks = marks_of(book, row)
        said = sayings(count_by(surveys, marks))
        if best is None or said < best[0]:
            best = (said, marks)
    return best
