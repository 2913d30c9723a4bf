"""Rows of numbers as snapshots write them: neighbours that are the same are written at once."""

from suresieves.names import FIGURES, number_in

# No row has more numbers than this.
MOST_NUMBERS = 256


def long_number_in(text):
    """The number from 0 on that a text of any length writes without noughts ahead, None if it is none."""
    if not text or not all(sign in FIGURES for sign in text):
        return None
    if text[0] == "0" and len(text) > 1:
        return None
    number = 0
    for sign in text:
        number = 10 * number + FIGURES.index(sign)
    return number


def group_text(times, number):
    """So many neighbours that are the same, written."""
    return str(number) if times == 1 else f"{times}*{number}"


def row_text(numbers):
    """A row of numbers, written."""
    texts, start = [], 0
    for index in range(1, len(numbers) + 1):
        if index == len(numbers) or numbers[index] != numbers[start]:
            texts.append(group_text(index - start, numbers[start]))
            start = index
    return " ".join(texts)


def group_in(text, most):
    """The neighbours that a word of a row tells, numbers up to most; None if it tells none."""
    head, star, tail = text.partition("*")
    times = number_in(head, 2, MOST_NUMBERS) if star else 1
    number = number_in(tail if star else head, 0, most)
    return None if times is None or number is None else (number,) * times


def row_in(text, most):
    """The numbers up to most that a row tells, None if it is not written as told."""
    if not text:
        return ()
    numbers = ()
    for word in text.split(" "):
        group = group_in(word, most)
        if group is None or len(numbers) + len(group) > MOST_NUMBERS:
            return None
        numbers += group
    # There is just one way to write each row.
    return numbers if row_text(numbers) == text else None


def headed_text(head, text):
    """A line of a word or two and a row, which is left out with its blank if it is empty."""
    return f"{head} {text}" if text else head


def text_behind(head, line):
    """The row behind a line's word or two; None if they are others, or a blank stands alone."""
    if line == head:
        return ""
    if not line.startswith(f"{head} ") or len(line) == len(head) + 1:
        return None
    return line[len(head) + 1:]
