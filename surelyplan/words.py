"""Texts split into words, numbers and marks."""

from surelyplan.errors import BadText

LETTERS = "abcdefghijklmnopqrstuvwxyz"
DIGITS = "0123456789"
MARKS = "(){},:;"
BLANKS = " \n"
MOST_DIGITS = 4


class Word:
    """A word, a number or a mark: what it is, what it says, and the place where it begins."""

    def __init__(self, kind, said, at):
        self.kind = kind
        self.said = said
        self.at = at

    def __eq__(self, other):
        if not isinstance(other, Word):
            return False
        return self.kind == other.kind and self.said == other.said and self.at == other.at


def split_words(text):
    """Return the list of the words, numbers and marks of a text."""
    if not isinstance(text, str):
        raise BadText(None)
    words = []
    at = 0
    while at < len(text):
        if text[at] in BLANKS:
            at += 1
        else:
            words.append(_word_at(text, at))
            at += len(words[-1].said)
    return words


def _word_at(text, at):
    if text[at] in MARKS:
        return Word("mark", text[at], at)
    if text[at] in LETTERS:
        return Word("word", text[at:_end_of(text, at, LETTERS)], at)
    if text[at] not in DIGITS:
        raise BadText(at)
    said = text[at:_end_of(text, at, DIGITS)]
    if len(said) > MOST_DIGITS or len(said) > 1 and said[0] == "0":
        raise BadText(at)
    return Word("number", said, at)


def _end_of(text, at, letters):
    """Return the place behind the last one of the letters that follow one another from a place."""
    while at < len(text) and text[at] in letters:
        at += 1
    return at
