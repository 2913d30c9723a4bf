"""Worked examples as they stand in the document, done line by line."""

import unittest

from suresieves import errors


def lines_of(text):
    """Pairs of a line that is said and the line that answers it, None where there is none."""
    rows = [row for row in text.strip().splitlines() if row]
    said = []
    for row in rows:
        if row.startswith(">>> "):
            said.append([row[4:], None])
        else:
            said[-1][1] = row
    return said


def attributes_of(text):
    """The name of an error and its attributes, of a line like "raises Name(a=1, b=2)"."""
    name, _, rest = text.partition("(")
    return name, eval("dict(" + rest)


class SessionCase(unittest.TestCase):
    """A test that goes through sessions, names staying from one to the next."""

    def go_through(self, text, names):
        for said, answer in lines_of(text):
            with self.subTest(said=said):
                self.one_line(said, answer, names)

    def one_line(self, said, answer, names):
        if answer is None:
            exec(said, names)
        elif answer.startswith("raises "):
            name, attributes = attributes_of(answer[7:])
            with self.assertRaises(getattr(errors, name)) as caught:
                eval(said, names)
            self.assertEqual(vars(caught.exception), attributes)
        else:
            self.assertEqual(repr(eval(said, names)), answer)
