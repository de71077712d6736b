"""Books: how they are made, which names they keep to, and their places.

What is of held books, too, takes an errand's term as its last item, and knows
the terms that they alone have. Terms may stand hundreds within one another in
what is only looked at, so everything here goes over them with a row of what is
still to do instead of calling itself.
"""

from sparecount.errors import NoBook

LANGUAGE_WORDS = ("be", "box", "else", "in", "keep", "let", "look", "loose", "open", "zero")
MOST_LETTERS = 8
GREATEST_NUMBER = 999
MOST_ERRANDS = 6
MOST_NAMES = 4
MOST_BOX_WORDS = 3
MOST_CASES = 4
MOST_TERMS = 40
MOST_WITHIN = 12

# What stands behind the first word of each plain term. A "part" is a term,
# which is looked at by itself.
FORMS = {
    "number": ("number",),
    "name": ("word",),
    "plus": ("word", "word"),
    "less": ("word", "word"),
    "box": ("word", "box words"),
    "ask": ("word", "ask words"),
    "let": ("word", "part", "part"),
    "zero": ("word", "part", "part"),
    "open": ("word", "cases"),
}


def is_word(thing):
    """Tell of anything whether it is a word."""
    return (
        isinstance(thing, str)
        and 1 <= len(thing) <= MOST_LETTERS
        and thing.isascii()
        and thing.isalpha()
        and thing.islower()
        and thing not in LANGUAGE_WORDS
    )


def is_whole(thing):
    """Tell of anything whether it is a whole number: an int that is no truth."""
    return isinstance(thing, int) and not isinstance(thing, bool)


def is_number(thing):
    """Tell of anything whether it is a number as books and boxes have them."""
    return is_whole(thing) and 0 <= thing <= GREATEST_NUMBER


def are_words(thing, most):
    """Tell of anything whether it is a tuple of none to so many words."""
    return isinstance(thing, tuple) and len(thing) <= most and all([is_word(word) for word in thing])


def is_case_made(thing):
    """Tell of anything whether it is made as a case, but for its term."""
    return (
        isinstance(thing, tuple)
        and len(thing) == 3
        and is_word(thing[0])
        and are_words(thing[1], MOST_BOX_WORDS)
    )


def are_cases_made(thing):
    """Tell of anything whether it is made as the cases of an open, but for their terms."""
    return (
        isinstance(thing, tuple)
        and 1 <= len(thing) <= MOST_CASES
        and all([is_case_made(case) for case in thing])
    )


def is_field_made(sort, thing):
    """Tell of anything whether it may stand where a form has this sort."""
    if sort == "number":
        return is_number(thing)
    if sort == "word":
        return is_word(thing)
    if sort == "box words":
        return are_words(thing, MOST_BOX_WORDS)
    if sort == "ask words":
        return are_words(thing, MOST_NAMES)
    if sort == "cases":
        return are_cases_made(thing)
    return True


def kind_of(thing):
    """Tell of anything the text that it begins with, as a term does, or None."""
    if isinstance(thing, tuple) and len(thing) > 0 and isinstance(thing[0], str):
        return thing[0]
    return None


def are_fields_made(sorts, fields):
    """Tell whether fields are as many as a form has sorts, and each may stand there."""
    return len(fields) == len(sorts) and all(
        [is_field_made(sort, field) for sort, field in zip(sorts, fields)]
    )


def is_term_made(thing):
    """Tell of anything whether it is made as a plain term, but for its parts."""
    kind = kind_of(thing)
    return kind in FORMS and are_fields_made(FORMS[kind], thing[1:])


def is_errand_made(thing):
    """Tell of anything whether it is made as a plain errand, but for its term."""
    return (
        isinstance(thing, tuple)
        and len(thing) == 3
        and is_word(thing[0])
        and are_words(thing[1], MOST_NAMES)
    )


def is_made_of(thing, errand_made, term_made):
    """Tell of anything whether it is made as a book of such errands and terms."""
    if not isinstance(thing, tuple) or not 1 <= len(thing) <= MOST_ERRANDS:
        return False
    if not all([errand_made(errand) for errand in thing]):
        return False
    todo = [errand[-1] for errand in thing]
    while todo:
        term = todo.pop()
        if not term_made(term):
            return False
        todo.extend(parts_of(term))
    return True


def names_in(term):
    """Tell the words that a term itself names, those of an again but for its z."""
    kind = term[0]
    if kind in ("name", "zero", "open", "look", "keep", "loose"):
        return (term[1],)
    if kind in ("plus", "less"):
        return term[1:]
    if kind in ("box", "ask"):
        return term[2]
    if kind == "again":
        return term[3]
    return ()


def bound_in(term):
    """Tell the words that a term itself binds."""
    if term[0] == "let":
        return (term[1],)
    if term[0] in ("open", "look"):
        return tuple([word for case in term[2] for word in case[1]])
    return ()


def parts_around(term, around, opened):
    """Tell the parts of a term, each with the words around it, and those opened around it."""
    kind = term[0]
    if kind == "let":
        return [(term[2], around, opened), (term[3], around + (term[1],), opened)]
    if kind == "open":
        return [(case[2], around + case[1], opened + (term[1],)) for case in term[2]]
    if kind == "look":
        return [(case[2], around + case[1], opened) for case in term[2]]
    return [(part, around, opened) for part in parts_of(term)]


def is_term_named(term, around, opened, sizes):
    """Tell whether a term itself keeps to the names around and the errands there are."""
    kind = term[0]
    if not all([word in around for word in names_in(term)]):
        return False
    if kind == "ask":
        return sizes.get(term[1]) == len(term[2])
    if kind in ("open", "look"):
        return len(set([case[0] for case in term[2]])) == len(term[2])
    if kind == "again":
        return term[1] in opened
    return True


def is_errand_named(errand, sizes):
    """Tell whether an errand keeps to its names; sizes are the errands' numbers of names."""
    bound = list(errand[1])
    todo = [(errand[-1], errand[1], ())]
    while todo:
        term, around, opened = todo.pop()
        if not is_term_named(term, around, opened, sizes):
            return False
        bound.extend(bound_in(term))
        todo.extend(parts_around(term, around, opened))
    return len(set(bound)) == len(bound)


def is_book_named(book):
    """Tell whether what is made as a book, plain or held, keeps to its names."""
    sizes = {errand[0]: len(errand[1]) for errand in book}
    return len(sizes) == len(book) and all([is_errand_named(errand, sizes) for errand in book])


def is_errand_great(errand, most_terms, most_within):
    """Tell whether an errand has too many terms, or one within too many others."""
    places = [place for place, term in placed_terms(errand)]
    # A place has a number for each term that the one there stands within.
    return len(places) > most_terms or max([len(place) for place in places]) - 1 > most_within


def find_fault(thing, errand_made, term_made, most_terms, most_within):
    """Tell of anything why it is no book of such errands, terms and sizes, or None."""
    if not is_made_of(thing, errand_made, term_made):
        return "shape"
    if not is_book_named(thing):
        return "names"
    if any([is_errand_great(errand, most_terms, most_within) for errand in thing]):
        return "great"
    return None


def why_no_book(thing):
    """Tell of anything why it is no book: "shape", "names", "great", or None."""
    return find_fault(thing, is_errand_made, is_term_made, MOST_TERMS, MOST_WITHIN)


def need_book(thing):
    """Refuse with NoBook what is no book."""
    fault = why_no_book(thing)
    if fault is not None:
        raise NoBook(fault)


def parts_of(term):
    """Tell the parts of a term, of a plain book or of a held one."""
    kind = term[0]
    if kind in ("let", "zero"):
        return (term[2], term[3])
    if kind in ("open", "look"):
        return tuple([case[2] for case in term[2]])
    if kind in ("keep", "loose"):
        return (term[2],)
    return ()


def with_parts(term, parts):
    """Tell a term, of a plain book or of a held one, with other parts in the place of its own."""
    kind = term[0]
    if kind in ("let", "zero", "keep", "loose"):
        return (kind, term[1]) + tuple(parts)
    if kind in ("open", "look"):
        cases = [(case[0], case[1], part) for case, part in zip(term[2], parts)]
        return (kind, term[1], tuple(cases))
    return term


def rebuilt(terms, remade):
    """Tell an errand's term made anew out of its terms by places, in order.

    remade tells by a place, and the term there with its parts made anew, what
    that term becomes.
    """
    built = {}
    last = None
    for place in reversed(list(terms)):
        term = terms[place]
        parts = [built[place + (at,)] for at in range(len(parts_of(term)))]
        last = remade(place, with_parts(term, parts))
        built[place] = last
    return last


def placed_terms(errand):
    """Tell the terms of an errand, plain or held, each behind its place, in order."""
    told = []
    todo = [((errand[0],), errand[-1])]
    while todo:
        place, term = todo.pop()
        told.append((place, term))
        parts = parts_of(term)
        for at in reversed(range(len(parts))):
            todo.append((place + (at,), parts[at]))
    return told


def all_places(book):
    """Tell all places of a book, plain or held, in order."""
    return [place for errand in book for place, term in placed_terms(errand)]


def find_errand(book, word):
    """Tell the errand that is called so, or None."""
    for errand in book:
        if errand[0] == word:
            return errand
    return None


def term_at(book, place):
    """Tell the term at a place of a book, plain or held."""
    term = find_errand(book, place[0])[-1]
    for at in place[1:]:
        term = parts_of(term)[at]
    return term
