"""Books as the tests write them: a line for each errand, as texts of books are, blanks at will."""

import re


class Signs:
    """The words and signs of a line, read one after another."""

    def __init__(self, line):
        self.signs = re.findall(r"[a-z]+|[0-9]+|\S", line)

    def take(self, *signs):
        """The next sign, one of these where some are told."""
        sign = self.signs.pop(0)
        assert not signs or sign in signs, (sign, signs)
        return sign

    def next_is(self, sign):
        return self.signs[:1] == [sign]

    def words(self, end):
        """Words up to a sign."""
        words = []
        while not self.next_is(end):
            words.append(self.take())
        self.take(end)
        return tuple(words)

    def bracketed(self):
        self.take("(")
        return tuple(word for word in self.words(")") if word != ",")

    def cases(self):
        cases = []
        while self.take("{", ";", "}") != "}":
            word, *words = self.words(":")
            cases.append((word, tuple(words), self.term()))
        return tuple(cases)

    def braced(self):
        self.take("{")
        term = self.term()
        self.take("}")
        return term

    def term(self):
        sign = self.take()
        if sign.isdigit():
            return ("number", int(sign))
        if sign == "let":
            word, _, first, _ = self.take(), self.take("be"), self.term(), self.take("in")
            return ("let", word, first, self.term())
        if sign == "zero":
            word, first, _ = self.take(), self.braced(), self.take("else")
            return ("zero", word, first, self.braced())
        if sign in ("open", "look"):
            return (sign, self.take(), self.cases())
        if sign in ("keep", "loose"):
            word, _ = self.take(), self.take(";")
            return (sign, word, self.term())
        if sign == "again":
            return (sign, self.take(), self.take(), self.bracketed())
        if sign == "box":
            return (sign, self.take(), self.bracketed())
        return self.with_word(sign)

    def with_word(self, word):
        """A term that begins with a word of the book's own."""
        if self.next_is("("):
            return ("ask", word, self.bracketed())
        if self.next_is("+") or self.next_is("-"):
            return ("plus" if self.take() == "+" else "less", word, self.take())
        return ("name", word)


def errand_of(line):
    """An errand of a held book."""
    signs = Signs(line)
    word, *marked = signs.words("=")
    names = tuple(sign for sign in marked if sign != "&")
    lent = tuple(ahead == "&" for ahead, sign in zip([word] + marked, marked) if sign != "&")
    term = signs.term()
    assert not signs.signs, signs.signs
    return (word, names, lent, term)


def held(*lines):
    """The held book that these lines tell."""
    return tuple(errand_of(line) for line in lines)


def plain(*lines):
    """The plain book that these lines tell."""
    return tuple((word, names, term) for word, names, lent, term in held(*lines))
