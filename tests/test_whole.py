"""Whole lines of all calls, thrown together, beside the document told once more."""

import itertools
import unittest

from tests.lines import NAMES, PAIRS, TOP, ask, made_up


class Refusal(Exception):
    pass


def refuse_if(due, number):
    if due:
        raise Refusal(number)


class Plain:
    """One object: a method for each call but begin, which makes a new one."""

    def __init__(self):
        self.table = {}
        self.now = None
        self.all_jobs = []
        self.wires = []
        self.lost = 0

    def step(self, a, b):
        return 0 if a is None else self.table.get((a, b), 0)

    def along(self, colours):
        row = [self.now, *colours]
        return sum(self.step(a, b) for a, b in zip(row, row[1:]))

    def best_of(self, jobs):
        orders = itertools.permutations(range(len(jobs)))
        return min((self.along([jobs[j][0] for j in order]), list(order)) for order in orders)

    def over(self, a, b):
        others = [colour for colour in range(6) if colour not in (a, b)]
        ways = [(a, *way, b) for count in range(5) for way in itertools.permutations(others, count)]
        return min(sum(self.step(*pair) for pair in zip(way, way[1:])) for way in ways)

    def cut(self, wires, n):
        return sum(len(piece) // n for wire in wires for piece in wire[1].split("x"))

    def of_colour(self, colour):
        return [wire for wire in self.wires if wire[0] == colour]

    def waste(self, a, b, n):
        refuse_if(a > 5 or b > 5 or a == b or n > 1000, -22)
        before = self.step(a, b)
        self.table[a, b] = n
        return [before]

    def job(self, colour, metres, piece):
        refuse_if(colour > 5 or not 1 <= metres <= 5000 or not 1 <= piece <= metres, -22)
        refuse_if(len(self.all_jobs) == 6, -28)
        self.all_jobs.append([colour, metres, piece])
        return [len(self.all_jobs) - 1]

    def drop(self, j):
        refuse_if(j >= len(self.all_jobs), -2)
        del self.all_jobs[j]
        return [len(self.all_jobs)]

    def run(self, j):
        refuse_if(j >= len(self.all_jobs), -2)
        colour, metres, _ = self.all_jobs.pop(j)
        lost = self.step(self.now, colour)
        self.lost += lost
        self.now = colour
        self.wires.append([colour, "." * metres])
        return [len(self.wires) - 1, lost]

    def best(self):
        return [0, self.best_of(self.all_jobs)[0]]

    def order(self):
        return [len(self.all_jobs), *self.best_of(self.all_jobs)[1]]

    def attempt(self, *numbers):
        order = numbers[:len(self.all_jobs)]
        refuse_if(set(order) != set(range(len(self.all_jobs))), -22)
        return [0, self.along([self.all_jobs[j][0] for j in order])]

    def would(self, colour):
        refuse_if(colour > 5, -22)
        refuse_if(len(self.all_jobs) == 6, -28)
        return [0, self.best_of(self.all_jobs + [[colour, 1, 1]])[0] - self.best_of(self.all_jobs)[0]]

    def saves(self, j):
        refuse_if(j >= len(self.all_jobs), -2)
        others = [job for at, job in enumerate(self.all_jobs) if at != j]
        return [0, self.best_of(self.all_jobs)[0] - self.best_of(others)[0]]

    def next(self):
        refuse_if(not self.all_jobs, -33)
        return [self.best_of(self.all_jobs)[1][0]]

    def by(self, a, b):
        refuse_if(a > 5 or b > 5, -22)
        return [0 if a == b else self.over(a, b)]

    def detours(self):
        pairs = [(a, b) for a in range(6) for b in range(6) if a != b and self.over(a, b) < self.step(a, b)]
        return [len(pairs), *[colour for pair in pairs for colour in pair]]

    def spark(self, c, p):
        refuse_if(c >= len(self.wires), -2)
        wire = self.wires[c][1]
        refuse_if(p >= len(wire), -22)
        refuse_if(wire[p] == "x", -17)
        refuse_if(wire.count("x") == 8, -28)
        self.wires[c][1] = wire[:p] + "x" + wire[p + 1:]
        return [wire.count("x") + 1]

    def pieces(self, c):
        refuse_if(c >= len(self.wires), -2)
        lengths = [len(piece) for piece in self.wires[c][1].split("x")]
        return [len(lengths), *lengths]

    def good(self, c, n):
        refuse_if(c >= len(self.wires), -2)
        refuse_if(n == 0, -22)
        return [self.cut([self.wires[c]], n)]

    def stock(self, colour, n):
        refuse_if(colour > 5 or n == 0, -22)
        return [self.cut(self.of_colour(colour), n)]

    def longest(self, colour, k):
        refuse_if(colour > 5 or k == 0, -22)
        wires = self.of_colour(colour)
        refuse_if(self.cut(wires, 1) < k, -33)
        return [next(n for n in range(5000, 0, -1) if self.cut(wires, n) >= k)]

    def core(self, c):
        refuse_if(c >= len(self.wires), -2)
        colour, wire = self.wires[c]
        return [colour, len(wire), *[p for p, sign in enumerate(wire) if sign == "x"]]

    def look(self, j):
        refuse_if(j >= len(self.all_jobs), -2)
        return list(self.all_jobs[j])

    def sums(self):
        return [len(self.all_jobs), len(self.wires), self.lost, 0 if self.now is None else self.now + 1]


def plain_answers(texts):
    """What each call is answered, one list each."""
    works = None
    given = []
    for text in texts:
        name, *numbers = text.split()
        if name == "begin":
            works = Plain()
            given.append([0])
        elif works is None:
            given.append([-11])
        else:
            try:
                given.append(getattr(works, name)(*[int(number) for number in numbers]))
            except Refusal as refusal:
                given.append([refusal.args[0]])
    return given


# By a call: how often it comes, and what each of its numbers is mostly below (0: a line's most metres).
MOSTLY = {
    "waste": (9, (6, 6, 1001)), "job": (12, (6, 0, 0)), "drop": (1, (4,)), "run": (9, (3,)), "best": (1, ()),
    "order": (1, ()), "attempt": (1, (2, 2, 3, 6, 6, 6)), "would": (2, (6,)), "saves": (2, (3,)), "next": (1, ()),
    "by": (2, (6, 6)), "detours": (1, ()), "spark": (20, (2, 0)), "pieces": (3, (3,)), "good": (4, (3, 9)),
    "stock": (4, (6, 9)), "longest": (3, (6, 40)), "core": (3, (3,)), "look": (2, (3,)), "sums": (2, ()),
    "begin": (0, ()),
}
NAMES_AS_OFTEN = [name for name, (often, below) in MOSTLY.items() for _ in range(often)]
REFUSALS = {
    -2: "drop run saves spark pieces good core look",
    -17: "spark",
    -22: "waste job attempt would by spark good stock longest",
    -28: "job would spark",
    -33: "next longest",
}
EDGES = (0, 1, 5, 6, 7, 8, 1000, 1001, 4999, 5000, 5001, TOP)


def text_of(name, below, numbers, most):
    """One call; now and then one of its numbers is at an edge instead."""
    words = [name]
    for at, bound in enumerate(below):
        number = numbers[at + 1] % (bound or most)
        if numbers[at + 1] // 64 % 40 == 0:
            number = EDGES[numbers[at + 1] % len(EDGES)]
        words.append(str(number))
    return " ".join(words)


def thrown_together(seed):
    most = (4, 12, 60, 5000)[seed % 4]
    numbers = made_up(seed + 1, 80 * 8)
    texts = [f"waste {a} {b} {numbers[6 * a + b] % 50}" for a, b in PAIRS[::4]]
    texts += [f"job {seed % 6} {most} 1", "run 0", f"job {seed % 5} {most} 1", "run 0"]
    if seed % 10:
        texts.insert(0, "begin")
    for at in range(80 - len(texts)):
        own = numbers[8 * at:8 * at + 8]
        name = NAMES_AS_OFTEN[own[0] % len(NAMES_AS_OFTEN)]
        if own[0] // 128 % 250 == 3:
            name = "begin"
        text = text_of(name, MOSTLY[name][1], own, most)
        if name == "job" and own[7] % 8:
            # Left to themselves, pieces would be longer than their metres too often.
            text = f"job {own[1] % 6} {1 + own[2] % most} 1"
        texts.append(text)
    return texts


class BesideThePlainOne(unittest.TestCase):
    def test_lines_thrown_together(self):
        for seed in range(120):
            with self.subTest(seed=seed):
                texts = thrown_together(seed)
                self.assertEqual(ask(texts), plain_answers(texts))

    def test_each_answer_and_each_refusal_comes_among_them(self):
        seen = set()
        for seed in range(120):
            texts = thrown_together(seed)
            for text, answer in zip(texts, plain_answers(texts)):
                seen.add((text.split()[0], min(answer[0], 0) if len(answer) == 1 else 0))
        wanted = {(name, 0) for name in NAMES} | {(name, -11) for name in NAMES if name != "begin"}
        wanted |= {(name, number) for number, names in REFUSALS.items() for name in names.split()}
        self.assertEqual(seen, wanted)


if __name__ == "__main__":
    unittest.main()
