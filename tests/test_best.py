"""Promise 2: best, order, attempt (the words' try), would, saves, next."""

import itertools
import unittest

from tests.lines import PAIRS, TOP, LineCase, ask, made_up, wastes

SIX = [("begin", 0)] + [(f"job {colour} 10 10", colour) for colour in range(6)]


# Best from none: 2, 0, 1 wastes 3 + 4. The other orders waste more.
THREE = [
    ("begin", 0),
    *wastes({(0, 1): 4, (0, 2): 9, (1, 0): 8, (1, 2): 7, (2, 0): 3, (2, 1): 6}),
    ("job 0 10 10", 0), ("job 1 10 10", 1), ("job 2 10 10", 2),
]

# Around 0, 1, 2, 3, 4, 5 each change wastes 1, every other one 50.
RING = {(a, b): 1 if b == (a + 1) % 6 else 50 for a, b in PAIRS}

# From 0 to 1 it is cheaper over 2.
OVER_A_THIRD = {(0, 1): 100, (0, 2): 10, (2, 1): 20, (1, 0): 100, (1, 2): 100, (2, 0): 100}


class NoJobs(LineCase):
    def test_it_wastes_0_and_is_of_none(self):
        self.holds(("begin", 0), ("best", 0, 0), ("order", 0), ("attempt 0 1 2 3 4 5", 0, 0), ("next", -33))

    def test_also_behind_a_run(self):
        self.holds(
            ("begin", 0), *wastes(RING), ("job 2 1 1", 0), ("run 0", 0, 0),
            ("best", 0, 0), ("order", 0), (f"attempt {TOP} {TOP} 7 7 7 7", 0, 0), ("next", -33), ("saves 0", -2),
            ("would 2", 0, 0), ("would 3", 0, 1), ("would 1", 0, 50),
        )


class BestAndOrder(LineCase):
    def test_three(self):
        self.holds(*THREE, ("best", 0, 7), ("order", 3, 2, 0, 1), ("next", 2))

    def test_from_the_colour_now(self):
        # From 3: 0, 1, 2 wastes 1 + 4 + 7; 2, 0, 1 now wastes 20 + 3 + 4.
        self.holds(
            ("begin", 0), ("job 3 1 1", 0), ("run 0", 0, 0), *THREE[1:],
            *wastes({(3, 0): 1, (3, 1): 20, (3, 2): 20}), ("best", 0, 12), ("order", 3, 0, 1, 2), ("next", 0),
        )

    def test_one_alone(self):
        self.holds(("begin", 0), *wastes(RING), ("job 4 1 1", 0), ("best", 0, 0), ("order", 1, 0), ("next", 0))

    def test_six(self):
        self.holds(
            ("begin", 0), *wastes(RING), *[(f"job {c} 10 1", j) for j, c in enumerate((3, 0, 5, 2, 4, 1))],
            ("best", 0, 5), ("order", 6, 0, 4, 2, 1, 5, 3), ("next", 0),
        )

    def test_six_behind_a_run(self):
        self.holds(
            ("begin", 0), *wastes(RING), ("job 4 1 1", 0), ("run 0", 0, 0),
            *[(f"job {c} 10 1", j) for j, c in enumerate((3, 0, 5, 2, 4, 1))],
            ("best", 0, 5), ("order", 6, 4, 2, 1, 5, 3, 0), ("next", 4),
        )

    def test_two_of_one_colour(self):
        self.holds(
            ("begin", 0), *wastes({(0, 1): 5, (1, 0): 6}), ("job 0 1 1", 0), ("job 1 1 1", 1), ("job 0 1 1", 2),
            ("best", 0, 5), ("order", 3, 0, 2, 1), ("saves 0", 0, 0), ("saves 1", 0, 5), ("would 0", 0, 0),
        )

    def test_of_like_ones_the_first_by_the_numbers(self):
        self.holds(*SIX, ("best", 0, 0), ("order", 6, 0, 1, 2, 3, 4, 5), ("next", 0))
        self.holds(("begin", 0), *[("job 3 1 1", j) for j in range(4)], ("order", 4, 0, 1, 2, 3), ("next", 0))

    def test_of_like_ones_the_first_where_the_last_numbers_tell(self):
        # 1 has to be first; 0, 2, 3 behind it are all alike.
        first = {(a, 1): 9 for a in (0, 2, 3)}
        self.holds(
            ("begin", 0), *wastes(first), *[(f"job {j} 1 1", j) for j in range(4)],
            ("best", 0, 0), ("order", 4, 1, 0, 2, 3), ("next", 1),
        )

    def test_like_ones_that_are_not_neighbours(self):
        # 0, 1, 2 and 2, 1, 0 waste 2 each, all else more.
        rows = {(0, 1): 1, (1, 0): 1, (1, 2): 1, (2, 1): 1, (0, 2): 5, (2, 0): 5}
        self.holds(
            ("begin", 0), *wastes(rows), ("job 2 1 1", 0), ("job 1 1 1", 1), ("job 0 1 1", 2),
            ("best", 0, 2), ("order", 3, 0, 1, 2), ("attempt 2 1 0 0 0 0", 0, 2),
        )

    def test_the_change_itself_counts_though_another_way_is_cheaper(self):
        self.holds(
            ("begin", 0), *wastes(OVER_A_THIRD), ("job 0 1 1", 0), ("run 0", 0, 0), ("job 1 1 1", 0), ("best", 0, 100),
            ("job 2 1 1", 1), ("best", 0, 30), ("order", 2, 1, 0),
        )

    def test_the_most_that_can_be_wasted(self):
        dearest = {pair: 1000 for pair in PAIRS}
        self.holds(
            ("begin", 0), *wastes(dearest), ("job 0 1 1", 0), ("run 0", 0, 0),
            *[(f"job {1 + j % 5} 1 1", j) for j in range(6)],
            ("best", 0, 5000), ("order", 6, 0, 5, 1, 2, 3, 4), ("attempt 0 1 2 3 4 5", 0, 6000),
        )

    def test_asking_changes_nothing(self):
        # With a 3, that wastes nothing, one change of the others is left: 2 to 0, that wastes 3.
        self.holds(
            *THREE, ("best", 0, 7), ("order", 3, 2, 0, 1), ("next", 2), ("best", 0, 7), ("order", 3, 2, 0, 1),
            ("would 3", 0, -4), ("saves 2", 0, 3), ("attempt 0 1 2 0 0 0", 0, 11), ("would 3", 0, -4),
            ("saves 2", 0, 3), ("best", 0, 7), ("order", 3, 2, 0, 1), ("job 3 1 1", 3),
        )

    def test_numbers_behind_a_dropped_one(self):
        self.holds(*THREE, ("drop 0", 2), ("best", 0, 6), ("order", 2, 1, 0), ("next", 1))

    def test_numbers_behind_a_run_one(self):
        self.holds(*THREE, ("run 0", 0, 0), ("best", 0, 11), ("order", 2, 0, 1), ("run 0", 1, 4), ("order", 1, 0))


class Attempt(LineCase):
    def test_each_order_of_three(self):
        self.holds(
            *THREE, ("attempt 0 1 2 0 0 0", 0, 11), ("attempt 0 2 1 0 0 0", 0, 15), ("attempt 1 0 2 0 0 0", 0, 17),
            ("attempt 1 2 0 0 0 0", 0, 10), ("attempt 2 0 1 0 0 0", 0, 7), ("attempt 2 1 0 0 0 0", 0, 14),
        )

    def test_from_the_colour_now(self):
        self.holds(
            ("begin", 0), *wastes({(3, 0): 7, (0, 1): 2, (3, 1): 5, (1, 0): 4}), ("job 3 1 1", 0), ("run 0", 0, 0),
            ("job 0 1 1", 0), ("job 1 1 1", 1), ("attempt 0 1 9 9 9 9", 0, 9), ("attempt 1 0 9 9 9 9", 0, 9),
        )

    def test_numbers_behind_are_not_looked_at(self):
        for behind in ("0 0 0", "1 2 0", "3 4 5", "6 7 8", f"{TOP} {TOP} {TOP}"):
            self.holds(*THREE, (f"attempt 2 0 1 {behind}", 0, 7))
        self.holds(("begin", 0), ("job 0 1 1", 0), (f"attempt 0 0 0 {TOP} 1 1", 0, 0))

    def test_not_each_job_is_one(self):
        for first in ("0 0 1", "0 1 1", "1 1 1", "0 1 3", "3 1 2", "1 2 3", f"0 1 {TOP}", f"{TOP} 0 1"):
            self.holds(*THREE, (f"attempt {first} 2 2 2", -22), ("best", 0, 7))

    def test_the_missing_job_stands_behind(self):
        self.holds(*THREE, ("attempt 0 1 1 2 2 2", -22), ("attempt 0 0 1 2 0 0", -22), ("attempt 5 0 1 2 3 4", -22))

    def test_one_job(self):
        self.holds(("begin", 0), ("job 5 1 1", 0), ("attempt 0 5 5 5 5 5", 0, 0), ("attempt 1 0 0 0 0 0", -22),
                   (f"attempt {TOP} 0 0 0 0 0", -22))

    def test_six(self):
        self.holds(
            ("begin", 0), *wastes(RING), *[(f"job {c} 10 1", c) for c in range(6)],
            ("attempt 0 1 2 3 4 5", 0, 5), ("attempt 5 4 3 2 1 0", 0, 250), ("attempt 5 0 1 2 3 4", 0, 5),
            ("attempt 0 1 2 3 4 4", -22), ("attempt 0 1 2 3 4 6", -22), (f"attempt 0 1 2 3 4 {TOP}", -22),
            ("attempt 1 2 3 4 5 6", -22), ("attempt 0 0 1 2 3 4", -22),
        )

    def test_a_refusal_changes_nothing(self):
        self.holds(*THREE, ("attempt 0 0 0 0 0 0", -22), ("order", 3, 2, 0, 1), ("attempt 2 0 1 0 0 0", 0, 7))


class Would(LineCase):
    def test_more(self):
        self.holds(
            ("begin", 0), *wastes({(0, 1): 5, (1, 0): 8}), ("would 0", 0, 0), ("job 0 1 1", 0),
            ("would 0", 0, 0), ("would 1", 0, 5), ("run 0", 0, 0), ("would 1", 0, 5), ("would 0", 0, 0),
        )

    def test_it_is_what_best_tells_with_one_more(self):
        self.holds(*THREE, *wastes({(3, a): 9 for a in range(3)}), *wastes({(a, 3): 2 for a in range(3)}),
                   ("would 3", 0, 2), ("job 3 1 1", 3), ("best", 0, 9))

    def test_less_stands_behind_a_0(self):
        self.holds(
            ("begin", 0), *wastes(OVER_A_THIRD), ("job 0 1 1", 0), ("run 0", 0, 0), ("job 1 1 1", 0),
            ("best", 0, 100), ("would 2", 0, -70), ("job 2 1 1", 1), ("best", 0, 30), ("would 2", 0, 0),
        )

    def test_less_by_numbers_that_refusals_have(self):
        for less in (2, 11, 22, 28, 33):
            self.holds(
                ("begin", 0), ("waste 0 1 " + str(less), 0), ("job 0 1 1", 0), ("run 0", 0, 0), ("job 1 1 1", 0),
                ("would 2", 0, -less), ("job 2 1 1", 1), ("saves 1", 0, -less),
            )

    def test_colour_at_the_edge(self):
        self.holds(("begin", 0), ("would 5", 0, 0), ("would 6", -22), (f"would {TOP}", -22))

    def test_six_jobs(self):
        self.holds(*SIX[:6], ("would 0", 0, 0), ("job 5 10 10", 5), ("would 0", -28), ("would 5", -28))

    def test_two_refusals_due(self):
        self.holds(*SIX, ("would 6", -22), (f"would {TOP}", -22), ("would 5", -28))

    def test_a_refusal_changes_nothing(self):
        self.holds(*THREE, ("would 6", -22), ("best", 0, 7), ("order", 3, 2, 0, 1), ("job 0 1 1", 3))
        self.holds(*SIX, ("would 0", -28), ("order", 6, 0, 1, 2, 3, 4, 5), ("drop 0", 5), ("would 0", 0, 0))


class Saves(LineCase):
    def test_each_of_three(self):
        # Without 0: 2, 1 wastes 6. Without 1: 2, 0 wastes 3. Without 2: 0, 1 wastes 4.
        self.holds(*THREE, ("saves 0", 0, 1), ("saves 1", 0, 4), ("saves 2", 0, 3))

    def test_the_only_one(self):
        self.holds(
            ("begin", 0), *wastes(RING), ("job 0 1 1", 0), ("saves 0", 0, 0), ("run 0", 0, 0),
            ("job 2 1 1", 0), ("saves 0", 0, 50),
        )

    def test_more_stands_behind_a_0(self):
        self.holds(
            ("begin", 0), *wastes(OVER_A_THIRD), ("job 0 1 1", 0), ("run 0", 0, 0), ("job 1 1 1", 0), ("job 2 1 1", 1),
            ("best", 0, 30), ("saves 1", 0, -70), ("saves 0", 0, 20), ("drop 1", 1), ("best", 0, 100),
        )

    def test_no_such_job(self):
        self.holds(("begin", 0), ("saves 0", -2), ("job 0 1 1", 0), ("saves 0", 0, 0), ("saves 1", -2),
                   (f"saves {TOP}", -2))
        self.holds(*SIX, ("saves 5", 0, 0), ("saves 6", -2))

    def test_six(self):
        self.holds(
            ("begin", 0), *wastes(RING), *[(f"job {c} 10 1", c) for c in range(6)], ("best", 0, 5),
            *[(f"saves {j}", 0, 1) for j in range(6)],
        )

    def test_a_refusal_changes_nothing(self):
        self.holds(*THREE, ("saves 3", -2), ("best", 0, 7), ("order", 3, 2, 0, 1))


class Next(LineCase):
    def test_no_jobs(self):
        self.holds(("begin", 0), ("next", -33), ("job 0 1 1", 0), ("next", 0), ("drop 0", 0), ("next", -33))

    def test_run_each_time(self):
        self.holds(
            *THREE, ("next", 2), ("run 2", 0, 0), ("next", 0), ("run 0", 1, 3), ("next", 0), ("run 0", 2, 4),
            ("next", -33),
        )

    def test_a_refusal_changes_nothing(self):
        self.holds(("begin", 0), ("next", -33), ("order", 0), ("best", 0, 0), ("job 0 1 1", 0))


def plain_waste(table, now, colours):
    total = 0
    for colour in colours:
        if now is not None and now != colour:
            total += table[now, colour]
        now = colour
    return total


def plain_best(table, now, colours):
    orders = itertools.permutations(range(len(colours)))
    return min((plain_waste(table, now, [colours[j] for j in order]), list(order)) for order in orders)


class Scene:
    """A made-up beginning of a line: a table, perhaps a colour now, and jobs."""

    def __init__(self, seed, most, direct_is_least=False):
        numbers = made_up(seed, 50)
        self.table = {pair: numbers[at] % (most + 1) for at, pair in enumerate(PAIRS)}
        if direct_is_least:
            for c, a, b in itertools.permutations(range(6), 3):
                self.table[a, b] = min(self.table[a, b], self.table[a, c] + self.table[c, b])
            for c, a, b in itertools.permutations(range(6), 3):
                assert self.table[a, b] <= self.table[a, c] + self.table[c, b]
        self.now = None if numbers[30] % 3 == 0 else numbers[31] % 6
        self.colours = [number % 6 for number in numbers[32:32 + seed % 7]]
        self.texts = ["begin"] + [f"waste {a} {b} {n}" for (a, b), n in self.table.items()]
        if self.now is not None:
            self.texts += [f"job {self.now} 1 1", "run 0"]
        self.texts += [f"job {colour} 9 1" for colour in self.colours]

    def ask(self, texts):
        return ask(self.texts + texts)[len(self.texts):]


class WhatHolds(unittest.TestCase):
    def scenes(self, direct_is_least=False):
        for seed in range(70):
            for most in (2, 1000):
                with self.subTest(seed=seed, most=most):
                    yield Scene(seed, most, direct_is_least)

    def test_best_order_and_next_against_every_order(self):
        for scene in self.scenes():
            least, order = plain_best(scene.table, scene.now, scene.colours)
            first = order[:1] or [-33]
            self.assertEqual(scene.ask(["best", "order", "next"]), [[0, least], [len(order)] + order, first])

    def test_by_no_order_less_is_wasted(self):
        for scene in self.scenes():
            least = scene.ask(["best"])[0][1]
            orders = list(itertools.permutations(range(len(scene.colours))))[::29]
            texts = ["attempt " + " ".join(str(j) for j in (list(order) + [9] * 6)[:6]) for order in orders]
            wanted = [plain_waste(scene.table, scene.now, [scene.colours[j] for j in order]) for order in orders]
            self.assertEqual(scene.ask(texts), [[0, waste] for waste in wanted])
            self.assertTrue(all(waste >= least for waste in wanted))

    def test_run_each_time_the_first_of_the_best_wastes_just_what_is_told(self):
        for scene in self.scenes():
            told = scene.ask(["best"])[0][1]
            done = []
            for _ in scene.colours:
                done.append(f"run {scene.ask(done + ['next'])[-1][0]}")
            self.assertEqual(sum(answer[1] for answer in scene.ask(done)), told)

    def test_would_and_saves_against_best(self):
        for scene in self.scenes():
            least = plain_best(scene.table, scene.now, scene.colours)[0]
            if len(scene.colours) < 6:
                wanted = [[0, plain_best(scene.table, scene.now, scene.colours + [c])[0] - least] for c in range(6)]
                self.assertEqual(scene.ask([f"would {c}" for c in range(6)]), wanted)
            for j in range(len(scene.colours)):
                without = scene.colours[:j] + scene.colours[j + 1:]
                wanted = least - plain_best(scene.table, scene.now, without)[0]
                self.assertEqual(scene.ask([f"saves {j}"]), [[0, wanted]])

    def test_where_no_change_is_dearer_than_by_others_between(self):
        for scene in self.scenes(direct_is_least=True):
            texts = [f"saves {j}" for j in range(len(scene.colours))]
            if len(scene.colours) < 6:
                texts += [f"would {c}" for c in range(6)]
            for answer in scene.ask(texts):
                self.assertGreaterEqual(answer[1], 0)


if __name__ == "__main__":
    unittest.main()
