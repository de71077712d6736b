"""How the errands of plain books are read, each from a line.

Read is just what such an errand is written as, sign by sign, of words and numbers
that there are; how many words and cases stand there, whether names are those of a
book, and whether it is too great isn't asked here.
"""

from sparecount.books import is_word
from sparecount.errors import NoText

LETTERS = "abcdefghijklmnopqrstuvwxyz"
FIGURES = "0123456789"
MOST_FIGURES = 3
MOST_WITHIN = 90


class Reader:
    """A line that is read from its beginning on."""

    def __init__(self, line):
        self.line = line
        self.at = 0

    def sees(self, signs):
        """Tell whether these signs come next."""
        return self.line.startswith(signs, self.at)

    def take_if(self, signs):
        """Go on behind these signs if they come next, and tell whether they did."""
        if not self.sees(signs):
            return False
        self.at += len(signs)
        return True

    def take(self, signs):
        """Go on behind these signs, or refuse the line where they don't come next."""
        if not self.take_if(signs):
            raise NoText("other signs have to stand here")

    def take_any(self, signs):
        """Go on behind all that comes next of these signs, and tell it."""
        start = self.at
        while self.at < len(self.line) and self.line[self.at] in signs:
            self.at += 1
        return self.line[start:self.at]

    def take_word(self):
        """Go on behind a word, and tell it."""
        letters = self.take_any(LETTERS)
        need_name(letters)
        return letters

    def take_words(self, behind):
        """Go on behind one word or more, parted by blanks, and what stands behind them, and tell the words."""
        words = [self.take_word()]
        while not self.take_if(behind):
            self.take(" ")
            words.append(self.take_word())
        return words

    def take_bracketed(self):
        """Go on behind words in brackets, and tell the words."""
        self.take("(")
        words = []
        while not self.take_if(")"):
            if words:
                self.take(", ")
            words.append(self.take_word())
        return tuple(words)


class Begun:
    """A term of which parts are still to be read; heads are the words of its cases, where it has any."""

    def __init__(self, kind, word):
        self.kind = kind
        self.word = word
        self.heads = []
        self.parts = []


def need_name(letters):
    """Refuse with NoText letters that are no word, none at all likewise."""
    if not is_word(letters):
        raise NoText("a word has to stand here")


def number_of(figures):
    """Tell the number term of some figures, or refuse with NoText those that no number is written with."""
    if len(figures) > MOST_FIGURES:
        raise NoText("a number is too great")
    if len(figures) > 1 and figures[0] == "0":
        raise NoText("a number has a 0 ahead")
    return ("number", int(figures))


def read_named(reader, word):
    """Read the rest of a term that begins with a word."""
    if reader.sees("("):
        return ("ask", word, reader.take_bracketed())
    if reader.take_if(" + "):
        return ("plus", word, reader.take_word())
    if reader.take_if(" - "):
        return ("less", word, reader.take_word())
    return ("name", word)


def read_let(reader):
    """Read the rest of a let, up to its T."""
    begun = Begun("let", reader.take_word())
    reader.take(" be ")
    return begun


def read_zero(reader):
    """Read the rest of a zero, up to its first part."""
    begun = Begun("zero", reader.take_word())
    reader.take(" {")
    return begun


def read_open(reader):
    """Read the rest of an open, up to its first case's term."""
    begun = Begun("open", reader.take_word())
    reader.take(" {")
    begun.heads.append(reader.take_words(": "))
    return begun


BEGINNINGS = {"let": read_let, "zero": read_zero, "open": read_open}


def begin_term(reader, around):
    """Read a term without parts and tell it, or begin one: then it is put to those around, and None is told."""
    figures = reader.take_any(FIGURES)
    if figures != "":
        return number_of(figures)
    letters = reader.take_any(LETTERS)
    if letters == "box":
        reader.take(" ")
        return ("box", reader.take_word(), reader.take_bracketed())
    if letters not in BEGINNINGS:
        need_name(letters)
        return read_named(reader, letters)
    reader.take(" ")
    read_beginning = BEGINNINGS[letters]
    around.append(read_beginning(reader))
    return None


def has_more(reader, begun):
    """Go on behind a part of a term, and tell whether another one comes."""
    if begun.kind == "open":
        if not reader.take_if("; "):
            reader.take("}")
            return False
        begun.heads.append(reader.take_words(": "))
        return True
    if len(begun.parts) == 1:
        reader.take(" in " if begun.kind == "let" else "} else {")
        return True
    if begun.kind == "zero":
        reader.take("}")
    return False


def finished(begun):
    """Tell a term all of whose parts are read."""
    if begun.kind != "open":
        return (begun.kind, begun.word) + tuple(begun.parts)
    cases = [(head[0], tuple(head[1:]), part) for head, part in zip(begun.heads, begun.parts)]
    return ("open", begun.word, tuple(cases))


def end_part(reader, around, term):
    """Put a part to the innermost term around, and tell that one if it was the last part, else None."""
    begun = around[-1]
    begun.parts.append(term)
    if has_more(reader, begun):
        return None
    around.pop()
    return finished(begun)


def read_term(reader):
    """Read a term with all that stands within it."""
    around = []
    while True:
        if len(around) > MOST_WITHIN:
            raise NoText("a term stands within too many others")
        term = begin_term(reader, around)
        while term is not None and around:
            term = end_part(reader, around, term)
        if term is not None:
            return term


def read_errand(line):
    """Tell the errand of a plain book that a line is written as, or refuse it with NoText."""
    reader = Reader(line)
    head = reader.take_words(" = ")
    term = read_term(reader)
    if reader.at < len(line):
        raise NoText("there is more than an errand")
    return (head[0], tuple(head[1:]), term)
