"""The judge of translations, and the marks by which it sees."""

from suresieves.checks import first_bad, is_between, is_one_of, is_word
from suresieves.errors import InvalidMarks, InvalidName, InvalidNumber, InvalidWords
from suresieves.forms import need_form
from suresieves.hostrows import HOST_OPS
from suresieves.hosts import need_host, need_translation
from suresieves.judging import is_translation_taken
from suresieves.marks import is_mark, marks_of, worths_of


def need_marks(marks):
    """Raise InvalidMarks for what is no marks."""
    if not isinstance(marks, tuple):
        raise InvalidMarks(None)
    seen = {}
    for index, mark in enumerate(marks):
        if not is_mark(mark, index) or mark in seen:
            raise InvalidMarks(index)
        seen[mark] = True


def need_mark_number(number, marks):
    """Raise InvalidNumber for no index of a mark."""
    if not is_between(number, 0, len(marks) - 1):
        raise InvalidNumber(number)


def need_words(words):
    """Raise InvalidWords for what is no tuple of words."""
    if not isinstance(words, tuple):
        raise InvalidWords(None)
    wrong = first_bad(words, is_word)
    if wrong is not None:
        raise InvalidWords(wrong)


def made_mark(marks, op, one, two):
    """The marks, one more if there is need, and the number of what is made of OP and two of them."""
    need_marks(marks)
    if not is_one_of(op, HOST_OPS):
        raise InvalidName(op)
    need_mark_number(one, marks)
    need_mark_number(two, marks)
    made = marks_of(marks)
    number = made.make(op, one, two)
    return tuple(made.told), number


def bound_of(marks, number):
    """The bound of a mark."""
    need_marks(marks)
    need_mark_number(number, marks)
    return marks_of(marks).bounds[number]


def worth_of(marks, number, host, words):
    """The worth of a mark beside a HOST and the words that were read."""
    need_marks(marks)
    need_mark_number(number, marks)
    need_host(host)
    need_words(words)
    return worths_of(marks[:number + 1], host, words)[number]


def takes(form, translation):
    """Whether the judge takes a translation for a form."""
    need_form(form)
    need_translation(translation)
    return is_translation_taken(form, translation)
