"""Books as texts: plain and held ones are written, plain ones are read."""

from sparecount.books import why_no_book
from sparecount.errors import NoBook, NoText
from sparecount.reading import read_errand


def in_brackets(words):
    """Tell words in brackets."""
    return "(" + ", ".join(words) + ")"


def pieces_of_cases(term):
    """Tell what an open or a look is written as: a list of texts and of terms."""
    pieces = [term[0] + " " + term[1] + " {"]
    for at, case in enumerate(term[2]):
        pieces.append("; " if at > 0 else "")
        pieces.append(" ".join((case[0],) + case[1]) + ": ")
        pieces.append(case[2])
    return pieces + ["}"]


def pieces_of(term):
    """Tell what a term is written as: a list of texts, and of the terms that are its parts."""
    kind = term[0]
    if kind == "number":
        return [str(term[1])]
    if kind == "name":
        return [term[1]]
    if kind in ("plus", "less"):
        return [term[1] + (" + " if kind == "plus" else " - ") + term[2]]
    if kind == "box":
        return ["box " + term[1] + in_brackets(term[2])]
    if kind == "ask":
        return [term[1] + in_brackets(term[2])]
    if kind == "again":
        return ["again " + term[1] + " " + term[2] + in_brackets(term[3])]
    if kind == "let":
        return ["let " + term[1] + " be ", term[2], " in ", term[3]]
    if kind == "zero":
        return ["zero " + term[1] + " {", term[2], "} else {", term[3], "}"]
    if kind in ("keep", "loose"):
        return [kind + " " + term[1] + "; ", term[2]]
    return pieces_of_cases(term)


def show_term(term):
    """Tell the text of a term."""
    told = []
    todo = [term]
    while todo:
        piece = todo.pop()
        if isinstance(piece, str):
            told.append(piece)
        else:
            todo.extend(pieces_of(piece)[::-1])
    return "".join(told)


def show_errand(word, names, term):
    """Tell the text of an errand, whose names are told as they are written."""
    return " ".join([word] + names) + " = " + show_term(term)


def show_book(book):
    """Tell the text of a plain book."""
    return "\n".join([show_errand(word, list(names), term) for word, names, term in book])


def show_held(held):
    """Tell the text of a held book."""
    lines = []
    for word, names, lent, term in held:
        written = ["&" + name if truth else name for name, truth in zip(names, lent)]
        lines.append(show_errand(word, written, term))
    return "\n".join(lines)


def read_book(text):
    """Tell the plain book that a text is written as, or refuse it with NoText, then with NoBook."""
    book = tuple([read_errand(line) for line in text.split("\n")])
    fault = why_no_book(book)
    # What isn't made as a book is the text's fault: no book is written so.
    if fault == "shape":
        raise NoText("there are too many words, cases or errands")
    if fault is not None:
        raise NoBook(fault)
    return book
