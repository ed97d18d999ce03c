"""Promise 3: by, detours."""

import itertools
import unittest

from tests.lines import PAIRS, TOP, LineCase, ask, made_up, wastes

DEAREST = {pair: 1000 for pair in PAIRS}

# Around 0, 1, 2, 3, 4, 5 each change wastes 1, every other one 50.
RING = {(a, b): 1 if b == (a + 1) % 6 else 50 for a, b in PAIRS}


def table(rows):
    """A begin and all wastes: those told, all others 1000."""
    return [("begin", 0), *wastes({**DEAREST, **rows})]


def detours(*pairs):
    """The row of a call of detours that answers these pairs."""
    return ("detours", len(pairs), *[colour for pair in pairs for colour in pair])


class Straight(LineCase):
    def test_nothing_is_wasted(self):
        self.holds(("begin", 0), *[(f"by {a} {b}", 0) for a in range(6) for b in range(6)], ("detours", 0))

    def test_nothing_is_cheaper(self):
        self.holds(*table({}), *[(f"by {a} {b}", 1000) for a, b in PAIRS], ("detours", 0))

    def test_each_pair_has_its_own(self):
        # The least two together are more than the most one.
        rows = {(a, b): 100 + 10 * a + b for a, b in PAIRS}
        self.holds(("begin", 0), *wastes(rows), *[(f"by {a} {b}", n) for (a, b), n in rows.items()], ("detours", 0))

    def test_a_colour_to_itself(self):
        self.holds(*table({}), *[(f"by {a} {a}", 0) for a in range(6)], ("detours", 0))

    def test_a_colour_to_itself_in_a_ring(self):
        self.holds(("begin", 0), *wastes(RING), *[(f"by {a} {a}", 0) for a in range(6)])


class OverOthers(LineCase):
    def test_over_a_third(self):
        self.holds(
            *table({(0, 1): 100, (0, 2): 10, (2, 1): 20}), ("by 0 1", 30), ("by 0 2", 10), ("by 2 1", 20),
            ("by 1 0", 1000), detours((0, 1)),
        )

    def test_over_each_third(self):
        for over in (0, 1, 4, 5):
            self.holds(*table({(3, over): 400, (over, 2): 500}), ("by 3 2", 900), ("by 2 3", 1000), detours((3, 2)))

    def test_over_a_third_that_has_the_least_together(self):
        rows = {(0, 2): 1, (2, 1): 900, (0, 3): 300, (3, 1): 400, (0, 4): 800, (4, 1): 1}
        self.holds(*table(rows), ("by 0 1", 700), detours((0, 1)))

    def test_only_what_is_less_is_a_detour(self):
        way = {(0, 2): 10, (2, 1): 20}
        self.holds(*table({(0, 1): 31, **way}), ("by 0 1", 30), detours((0, 1)))
        self.holds(*table({(0, 1): 30, **way}), ("by 0 1", 30), detours())
        self.holds(*table({(0, 1): 29, **way}), ("by 0 1", 29), detours())

    def test_over_a_third_where_nothing_is_wasted(self):
        self.holds(*table({(5, 0): 0, (0, 4): 0}), ("by 5 4", 0), ("by 4 5", 1000), detours((5, 4)))

    def test_over_two_others(self):
        self.holds(
            *table({(4, 2): 100, (2, 5): 200, (5, 0): 300}), ("by 4 0", 600), ("by 4 5", 300), ("by 2 0", 500),
            detours((2, 0), (4, 0), (4, 5)),
        )

    def test_over_two_others_though_over_one_is_less_than_straight(self):
        self.holds(
            *table({(0, 1): 500, (0, 2): 100, (2, 1): 350, (2, 3): 100, (3, 1): 100}), ("by 0 1", 300),
            detours((0, 1), (0, 3), (2, 1)),
        )

    def test_over_all_four_others_in_any_order(self):
        for way in itertools.permutations(range(6)):
            if way[0] == 3:
                rows = {(a, b): 199 for a, b in zip(way, way[1:])}
                self.holds(*table(rows), (f"by {way[0]} {way[5]}", 995), (f"by {way[5]} {way[0]}", 1000))

    def test_a_way_over_all_that_is_no_less(self):
        way = (5, 1, 3, 0, 4, 2)
        self.holds(*table({(a, b): 200 for a, b in zip(way, way[1:])}), ("by 5 2", 1000), ("by 5 4", 800))

    def test_a_ring(self):
        far = [(a, b) for a, b in PAIRS if (b - a) % 6 > 1]
        self.holds(("begin", 0), *wastes(RING), *[(f"by {a} {b}", (b - a) % 6) for a, b in PAIRS], detours(*far))

    def test_detours_come_by_a_rising_then_b(self):
        # Over 5 it is cheaper from each of 4, 2, 0 to each of 3, 1.
        rows = {(4, 5): 1, (2, 5): 1, (0, 5): 1, (5, 3): 1, (5, 1): 1}
        self.holds(*table(rows), detours((0, 1), (0, 3), (2, 1), (2, 3), (4, 1), (4, 3)))

    def test_detours_both_ways(self):
        rows = {(1, 4): 1, (4, 3): 1, (3, 4): 2, (4, 1): 2}
        self.holds(*table(rows), ("by 1 3", 2), ("by 3 1", 4), detours((1, 3), (3, 1)))

    def test_the_most_detours(self):
        # Nothing is wasted around the ring, so that every other change is a detour.
        rows = {(a, b): 0 for a, b in PAIRS if b == (a + 1) % 6}
        far = [(a, b) for a, b in PAIRS if (b - a) % 6 > 1]
        self.holds(*table(rows), *[(f"by {a} {b}", 0) for a, b in PAIRS], detours(*far))
        self.assertEqual(len(far), 24)


class AsThingsChange(LineCase):
    def test_as_waste_changes(self):
        self.holds(
            *table({(0, 2): 10, (2, 1): 20}), ("by 0 1", 30), ("waste 2 1 500", 20), ("by 0 1", 510),
            ("waste 0 1 5", 1000), ("by 0 1", 5), detours(), ("waste 0 1 1000", 5), detours((0, 1)),
        )

    def test_asking_changes_nothing(self):
        rows = {(0, 1): 100, (0, 2): 10, (2, 1): 20}
        self.holds(
            *table(rows), ("by 0 1", 30), detours((0, 1)), ("by 0 1", 30), detours((0, 1)),
            ("sums", 0, 0, 0, 0), ("waste 0 1 100", 100), ("waste 0 2 10", 10), ("waste 2 1 20", 20),
            ("job 0 1 1", 0), ("run 0", 0, 0), ("job 1 1 1", 0), ("best", 0, 100), ("run 0", 1, 100),
        )

    def test_jobs_and_the_colour_now_are_all_one(self):
        self.holds(
            *table({(0, 2): 10, (2, 1): 20}), ("job 5 1 1", 0), ("run 0", 0, 0), ("job 3 1 1", 0), ("job 2 1 1", 1),
            ("by 0 1", 30), ("by 5 3", 1000), detours((0, 1)),
        )

    def test_behind_a_second_begin(self):
        self.holds(*table({}), ("by 0 1", 1000), ("begin", 0), ("by 0 1", 0), ("waste 0 1 7", 0), ("by 0 1", 0),
                   detours((0, 1)))

    def test_before_any_begin(self):
        self.holds(("by 0 1", -11), ("by 0 0", -11), (f"by {TOP} {TOP}", -11), ("detours", -11), ("begin", 0),
                   ("by 0 1", 0), ("detours", 0))


class Refused(LineCase):
    def test_colours_at_the_edge(self):
        self.holds(
            *table({}), ("by 5 0", 1000), ("by 0 5", 1000), ("by 5 5", 0), ("by 6 0", -22), ("by 0 6", -22),
            (f"by {TOP} 0", -22), (f"by 0 {TOP}", -22),
        )

    def test_both_wrong_and_the_same(self):
        self.holds(("begin", 0), ("by 6 6", -22), (f"by {TOP} {TOP}", -22), (f"by 6 {TOP}", -22))

    def test_a_refusal_changes_nothing(self):
        self.holds(
            *table({(0, 2): 10, (2, 1): 20}), ("by 6 1", -22), ("by 0 6", -22), ("by 0 1", 30), detours((0, 1)),
            ("sums", 0, 0, 0, 0), ("waste 0 1 0", 1000),
        )


def plain_least(rows, a, b):
    """The least of every way that comes to no colour twice."""
    if a == b:
        return 0
    others = [colour for colour in range(6) if colour not in (a, b)]
    ways = [(a, *over, b) for count in range(5) for over in itertools.permutations(others, count)]
    return min(sum(rows[step] for step in zip(way, way[1:])) for way in ways)


class WhatHolds(unittest.TestCase):
    def test_by_others_between_it_is_the_least(self):
        for seed in range(60):
            for most in (3, 40, 1000):
                with self.subTest(seed=seed, most=most):
                    numbers = made_up(seed, 30)
                    rows = {pair: numbers[at] % (most + 1) for at, pair in enumerate(PAIRS)}
                    texts = ["begin"] + [row[0] for row in wastes(rows)] + [f"by {a} {b}" for a, b in PAIRS]
                    least = {(a, b): plain_least(rows, a, b) for a, b in PAIRS}
                    cheaper = [pair for pair in PAIRS if least[pair] < rows[pair]]
                    given = ask(texts + ["detours"])
                    self.assertEqual(given[31:61], [[n] for n in least.values()])
                    self.assertEqual(given[61], [len(cheaper)] + [colour for pair in cheaper for colour in pair])


if __name__ == "__main__":
    unittest.main()
