"""Writings taken apart: sources into words and marks, lines into words."""

from suresieves.names import is_word_sign

DOUBLE_MARKS = ("<<", ">>", ">=")


def word_end(writing, start):
    """Where the word that begins at start ends."""
    end = start
    while end < len(writing) and is_word_sign(writing[end]):
        end += 1
    return end


def tokens_in(writing):
    """The words and marks of a writing, each as a pair (PLACE, TEXT)."""
    tokens = []
    at = 0
    while at < len(writing):
        end = word_end(writing, at)
        if end == at:
            end = at + (2 if writing[at:at + 2] in DOUBLE_MARKS else 1)
        if writing[at] not in " \n":
            tokens.append((at, writing[at:end]))
        at = end
    return tokens


def line_words(line):
    """The words of a line, longest rows of signs other than blanks, as pairs (PLACE, TEXT)."""
    words = []
    at = 0
    for word in line.split(" "):
        if word:
            words.append((at, word))
        at += len(word) + 1
    return words
