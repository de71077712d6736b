"""Counted books: held ones that tell what a plain one does, with nothing lent."""

from sparecount.counting import count_by, survey_book


def counted(book):
    """Tell the held book that a plain one is, counted with nothing lent."""
    return count_by(survey_book(book), tuple([(False,) * len(errand[1]) for errand in book]))
