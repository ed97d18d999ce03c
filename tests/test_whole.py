"""Whole lines of all calls, thrown together, beside the document told once more."""

import unittest

from tests.lines import NAMES, PAIRS, TOP, ask, made_up
from tests.plain import plain_answers

# By a call: how often it comes, and what each of its numbers is mostly below (0: a line's most metres).
MOSTLY = {
    "waste": (9, (6, 6, 1001)), "job": (12, (6, 0, 0)), "drop": (1, (4,)), "run": (9, (3,)), "best": (1, ()),
    "order": (1, ()), "attempt": (1, (2, 2, 3, 6, 6, 6)), "would": (2, (6,)), "saves": (2, (3,)), "next": (1, ()),
    "by": (2, (6, 6)), "detours": (1, ()), "spark": (20, (2, 0)), "pieces": (3, (3,)), "good": (4, (3, 9)),
    "stock": (4, (6, 9)), "longest": (3, (6, 40)), "core": (3, (3,)), "look": (2, (3,)), "sums": (2, ()),
    "begin": (0, ()),
}
NAMES_AS_OFTEN = [name for name, (often, below) in MOSTLY.items() for _ in range(often)]
REFUSALS = {
    -2: "drop run saves spark pieces good core look",
    -17: "spark",
    -22: "waste job attempt would by spark good stock longest",
    -28: "job would spark",
    -33: "next longest",
}
EDGES = (0, 1, 5, 6, 7, 8, 1000, 1001, 4999, 5000, 5001, TOP)


def text_of(name, below, numbers, most):
    """One call; now and then one of its numbers is at an edge instead."""
    words = [name]
    for at, bound in enumerate(below):
        number = numbers[at + 1] % (bound or most)
        if numbers[at + 1] // 64 % 40 == 0:
            number = EDGES[numbers[at + 1] % len(EDGES)]
        words.append(str(number))
    return " ".join(words)


def thrown_together(seed):
    most = (4, 12, 60, 5000)[seed % 4]
    numbers = made_up(seed + 1, 80 * 8)
    texts = [f"waste {a} {b} {numbers[6 * a + b] % 50}" for a, b in PAIRS[::4]]
    texts += [f"job {seed % 6} {most} 1", "run 0", f"job {seed % 5} {most} 1", "run 0"]
    if seed % 10:
        texts.insert(0, "begin")
    for at in range(80 - len(texts)):
        own = numbers[8 * at:8 * at + 8]
        name = NAMES_AS_OFTEN[own[0] % len(NAMES_AS_OFTEN)]
        if own[0] // 128 % 250 == 3:
            name = "begin"
        text = text_of(name, MOSTLY[name][1], own, most)
        if name == "job" and own[7] % 8:
            # Left to themselves, pieces would be longer than their metres too often.
            text = f"job {own[1] % 6} {1 + own[2] % most} 1"
        texts.append(text)
    return texts


class BesideThePlainOne(unittest.TestCase):
    def test_lines_thrown_together(self):
        for seed in range(120):
            with self.subTest(seed=seed):
                texts = thrown_together(seed)
                self.assertEqual(ask(texts), plain_answers(texts))

    def test_each_answer_and_each_refusal_comes_among_them(self):
        seen = set()
        for seed in range(120):
            texts = thrown_together(seed)
            for text, answer in zip(texts, plain_answers(texts)):
                seen.add((text.split()[0], min(answer[0], 0) if len(answer) == 1 else 0))
        wanted = {(name, 0) for name in NAMES} | {(name, -11) for name in NAMES if name != "begin"}
        wanted |= {(name, number) for number, names in REFUSALS.items() for name in names.split()}
        self.assertEqual(seen, wanted)


if __name__ == "__main__":
    unittest.main()
