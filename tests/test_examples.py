"""The examples of the document, as they stand there, for all that has landed."""

import os
import unittest

FILE = os.path.join(os.path.dirname(os.path.abspath(__file__)), "examples.txt")


def blocks():
    """Return pairs (heading, steps); a step is a pair (line behind >>>, what is told next, or None)."""
    found = []
    with open(FILE, encoding="utf-8") as file:
        for line in file.read().split("\n"):
            if line.startswith(">>> "):
                found[-1][1].append((line[4:], None))
            elif line.startswith("Stage "):
                found.append((line, []))
            elif line:
                steps = found[-1][1]
                steps[-1] = (steps[-1][0], line)
    return found


def told_by(line, names):
    """Return what a line of an example shows."""
    try:
        return repr(eval(line, names))
    except ValueError as error:
        return "raises " + type(error).__name__


class ExamplesTest(unittest.TestCase):
    def test_examples(self):
        for heading, steps in blocks():
            names = {}
            for line, told in steps:
                with self.subTest(heading=heading, line=line):
                    if told is None:
                        exec(line, names)
                    else:
                        self.assertEqual(told_by(line, names), told)

    def test_none_is_left_out(self):
        self.assertEqual([len(steps) for _, steps in blocks()], [2, 3, 5, 3, 6, 6, 8, 6, 6, 7, 7, 3, 5])
