"""Held books: books in whose errands the holders of boxes are kept and loosed."""

from sparecount.books import (
    MOST_NAMES,
    are_fields_made,
    are_words,
    find_fault,
    is_term_made,
    is_word,
    kind_of,
)

MOST_HELD_TERMS = 200
MOST_HELD_WITHIN = 60

# What stands behind the first word of each term that plain books don't have.
HELD_FORMS = {
    "keep": ("word", "part"),
    "loose": ("word", "part"),
    "look": ("word", "cases"),
    "again": ("word", "word", "box words"),
}


def is_held_term_made(thing):
    """Tell of anything whether it is made as a term of held books, but for its parts."""
    kind = kind_of(thing)
    if kind in HELD_FORMS:
        return are_fields_made(HELD_FORMS[kind], thing[1:])
    return is_term_made(thing)


def are_truths(thing, many):
    """Tell of anything whether it is a tuple of so many truths."""
    return (
        isinstance(thing, tuple)
        and len(thing) == many
        and all([isinstance(truth, bool) for truth in thing])
    )


def is_held_errand_made(thing):
    """Tell of anything whether it is made as an errand of held books, but for its term."""
    return (
        isinstance(thing, tuple)
        and len(thing) == 4
        and is_word(thing[0])
        and are_words(thing[1], MOST_NAMES)
        and are_truths(thing[2], len(thing[1]))
    )


def why_no_held(thing):
    """Tell of anything why it is no held book: "shape", "names", "great", or None."""
    return find_fault(
        thing, is_held_errand_made, is_held_term_made, MOST_HELD_TERMS, MOST_HELD_WITHIN,
    )
