"""Lines of calls by their names, for the tests."""

import unittest

from colouredcores.works import answers

NAMES = (
    "begin", "waste", "job", "drop", "run", "best", "order", "attempt", "would", "saves", "next",
    "by", "detours", "spark", "pieces", "good", "stock", "longest", "core", "look", "sums",
)

TOP = 4294967295

PAIRS = [(a, b) for a in range(6) for b in range(6) if a != b]


def call(text):
    words = text.split()
    return [NAMES.index(words[0])] + [int(word) for word in words[1:]]


def line(texts):
    assert 1 <= len(texts) <= 80, "such a line isn't handed in"
    return [number for text in texts for number in call(text)]


def parted(numbers):
    """The answers of a line, one list each."""
    parts = []
    at = 0
    while at < len(numbers):
        end = at + 1 + numbers[at]
        parts.append(numbers[at + 1:end])
        at = end
    return parts


def ask(texts):
    return parted(answers(line(texts)))


def wastes(rows):
    """Calls of waste on new pairs, and their answers, from {(a, b): n}."""
    return [(f"waste {a} {b} {n}", 0) for (a, b), n in rows.items()]


def made_up(seed, count):
    """Numbers that look thrown together but are always the same for a seed."""
    numbers = []
    state = seed
    for _ in range(count):
        state = (state * 1103515245 + 12345) % 2147483648
        numbers.append(state // 65536)
    return numbers


class LineCase(unittest.TestCase):
    def holds(self, *rows):
        """Each row is a call and, behind it, all numbers that it answers."""
        calls = line([row[0] for row in rows])
        handed = list(calls)
        wanted = []
        for row in rows:
            wanted += [len(row) - 1, *row[1:]]
        given = answers(handed)
        self.assertEqual(given, wanted)
        self.assertIs(type(given), list)
        self.assertEqual({type(number) for number in given}, {int})
        self.assertEqual(handed, calls)
        self.assertEqual(answers(handed), wanted)
