"""The desk: a book that is asked by rows of words, and answers with texts."""

from sparecount.books import is_word
from sparecount.counted import counted
from sparecount.errors import NoRow, NoStand
from sparecount.fewest import fewest
from sparecount.lends import counted_by, lendable
from sparecount.machine import run_held
from sparecount.plain import run
from sparecount.texts import read_book, show_held

MOST_ASKS = 300
MOST_FIGURES = 3


def is_figures(word):
    """Tell whether a word of a row is a number's: one to three figures, no 0 ahead but in 0."""
    if not 1 <= len(word) <= MOST_FIGURES or not word.isascii() or not word.isdigit():
        return False
    return word == "0" or word[0] != "0"


def numbers_of(words):
    """Tell the numbers of a row, as things."""
    return tuple([int(word) for word in words])


def lent_book(book):
    """Tell a book counted with all lent that may be."""
    return counted_by(book, lendable(book)[0])


def answer_run(book, words):
    """Tell what a plain run comes to."""
    end = run(book, words[1], numbers_of(words[2:]), MOST_ASKS)[0]
    if end[0] == "done" and isinstance(end[1], int):
        return f"done {end[1]}"
    return "box" if end[0] in ("done", "much") else end[0]


def answer_held(book, words):
    """Tell how often a run of the lent book keeps and looses, and how many boxes it makes."""
    told = run_held(lent_book(book), words[1], numbers_of(words[2:]), MOST_ASKS)
    keeps, looses = told[2]
    made = len([deed for deed in told[1] if deed[0] == "made"])
    return f"{keeps} {looses} {made}"


def answer_counted(book, _):
    """Tell the text of the book counted, nothing lent."""
    return show_held(counted(book))


def answer_lent(book, _):
    """Tell the text of the book counted with all lent that may be."""
    return show_held(lent_book(book))


def answer_fewest(book, _):
    """Tell the fewest sayings with which the book can be counted."""
    return str(fewest(book)[0])


ANSWERS = {
    "run": answer_run,
    "held": answer_held,
    "counted": answer_counted,
    "lent": answer_lent,
    "fewest": answer_fewest,
}


def is_row(words):
    """Tell whether these are the words of a row that asks for something of the book."""
    if words[0] not in ("run", "held"):
        return len(words) == 1 and words[0] in ANSWERS
    return len(words) > 1 and is_word(words[1]) and all([is_figures(word) for word in words[2:]])


class Desk:
    """A desk, at which no book stands yet."""

    def __init__(self):
        self.book = None

    def say(self, row):
        """Tell the answer to a row."""
        head, line_end, text = row.partition("\n")
        if head == "book" and line_end != "":
            self.book = read_book(text)
            return "ok"
        return self.answer(row.split(" "))

    def answer(self, words):
        """Tell the answer to the words of a row that asks for something of the book."""
        if not is_row(words):
            raise NoRow("there is no such row")
        if self.book is None:
            raise NoStand("no book stands here yet")
        tell = ANSWERS[words[0]]
        return tell(self.book, words)
