"""Promise 1: begin, waste, job, drop, run."""

import unittest

from tests.lines import PAIRS, TOP, LineCase, ask

SIX = [("begin", 0)] + [(f"job {colour} 10 10", colour) for colour in range(6)]


class Begin(LineCase):
    def test_nothing_is_wasted_between_any(self):
        self.holds(("begin", 0), *[(f"waste {a} {b} 1000", 0) for a, b in PAIRS])

    def test_no_jobs_and_no_cores(self):
        self.holds(("begin", 0), ("order", 0), ("job 3 7 2", 0), ("run 0", 0, 0))
        self.holds(("begin", 0), ("look 0", -2), ("core 0", -2))

    def test_no_colour_and_nothing_wasted(self):
        self.holds(("begin", 0), ("sums", 0, 0, 0, 0))


class Waste(LineCase):
    def test_it_answers_what_it_was(self):
        self.holds(("begin", 0), ("waste 2 4 17", 0), ("waste 2 4 5", 17), ("waste 2 4 0", 5), ("waste 2 4 1", 0))

    def test_one_way_alone(self):
        self.holds(
            ("begin", 0), ("waste 2 4 17", 0), ("waste 4 2 9", 0), ("waste 2 4 17", 17), ("waste 4 2 9", 9),
            ("waste 2 5 1", 0), ("waste 3 4 1", 0),
        )

    def test_each_pair_keeps_its_own(self):
        written = [(f"waste {a} {b} {10 * a + b}", 0) for a, b in PAIRS]
        read = [(f"waste {a} {b} 0", 10 * a + b) for a, b in PAIRS]
        self.holds(("begin", 0), *written, *read)

    def test_colours_at_the_edge(self):
        self.holds(
            ("begin", 0), ("waste 5 0 1", 0), ("waste 0 5 1", 0), ("waste 6 0 1", -22), ("waste 0 6 1", -22),
            (f"waste {TOP} 0 1", -22), (f"waste 0 {TOP} 1", -22),
        )

    def test_metres_at_the_edge(self):
        self.holds(
            ("begin", 0), ("waste 0 1 1000", 0), ("waste 0 1 1001", -22), (f"waste 0 1 {TOP}", -22),
            ("waste 0 1 0", 1000), ("waste 0 1 0", 0),
        )

    def test_a_colour_to_itself(self):
        self.holds(("begin", 0), *[(f"waste {a} {a} {n}", -22) for a in range(6) for n in (0, 1, 1000)])

    def test_several_wrong_at_once(self):
        self.holds(("begin", 0), (f"waste {TOP} {TOP} {TOP}", -22), ("waste 6 6 0", -22), ("waste 3 3 1001", -22))

    def test_a_refusal_changes_nothing(self):
        self.holds(
            ("begin", 0), ("waste 0 1 8", 0), ("waste 1 0 9", 0),
            ("waste 0 1 1001", -22), ("waste 0 0 5", -22), ("waste 0 6 5", -22), ("waste 6 1 5", -22),
            ("job 0 1 1", 0), ("job 0 1 1", 1), ("job 1 1 1", 2), ("best", 0, 8),
            ("waste 0 1 8", 8), ("waste 1 0 9", 9), ("waste 0 5 0", 0),
        )

    def test_it_may_come_when_there_are_jobs(self):
        self.holds(
            ("begin", 0), ("job 0 1 1", 0), ("run 0", 0, 0), ("job 1 1 1", 0), ("best", 0, 0),
            ("waste 0 1 8", 0), ("best", 0, 8), ("run 0", 1, 8),
        )


class Job(LineCase):
    def test_numbers_from_0(self):
        self.holds(*SIX)

    def test_several_of_one_colour(self):
        self.holds(("begin", 0), *[("job 2 10 3", j) for j in range(6)])

    def test_it_is_kept_as_it_was_told(self):
        self.holds(
            ("begin", 0), ("job 4 50 5", 0), ("job 2 700 70", 1), ("look 0", 4, 50, 5), ("look 1", 2, 700, 70),
            ("sums", 2, 0, 0, 0),
        )

    def test_colour_at_the_edge(self):
        self.holds(
            ("begin", 0), ("job 5 10 10", 0), ("job 6 10 10", -22), (f"job {TOP} 10 10", -22), ("job 0 10 10", 1),
        )

    def test_metres_at_the_edge(self):
        self.holds(
            ("begin", 0), ("job 0 0 0", -22), ("job 0 0 1", -22), ("job 0 1 1", 0), ("job 0 5000 1", 1),
            ("job 0 5001 1", -22), (f"job 0 {TOP} 1", -22), (f"job 0 {TOP} {TOP}", -22),
        )

    def test_piece_at_the_edge(self):
        self.holds(
            ("begin", 0), ("job 0 10 0", -22), ("job 0 10 1", 0), ("job 0 10 10", 1), ("job 0 10 11", -22),
            (f"job 0 10 {TOP}", -22), ("job 0 5000 5000", 2), ("job 0 5000 5001", -22), ("job 0 1 2", -22),
        )

    def test_a_seventh(self):
        self.holds(
            *SIX, ("job 0 9 9", -28), ("order", 6, 0, 1, 2, 3, 4, 5), ("sums", 6, 0, 0, 0),
            *[(f"look {j}", j, 10, 10) for j in range(6)], ("look 6", -2),
        )

    def test_two_refusals_due(self):
        self.holds(*SIX, ("job 6 10 10", -22), ("job 0 0 1", -22), ("job 0 5001 1", -22), ("job 0 10 11", -22),
                   ("job 0 10 0", -22), (f"job {TOP} {TOP} {TOP}", -22), ("job 0 10 10", -28))

    def test_a_refusal_changes_nothing(self):
        self.holds(
            ("begin", 0), ("job 6 1 1", -22), ("job 0 0 0", -22), ("job 0 1 2", -22), ("order", 0), ("job 1 1 1", 0),
        )

    def test_room_again_when_one_is_dropped_or_run(self):
        self.holds(
            *SIX, ("job 1 1 1", -28), ("drop 2", 5), ("job 1 1 1", 5), ("job 1 1 1", -28),
            ("run 0", 0, 0), ("job 1 1 1", 5), ("job 1 1 1", -28),
        )


class Drop(LineCase):
    def test_it_answers_how_many_are_left(self):
        self.holds(*SIX, ("drop 5", 5), ("drop 0", 4), ("drop 1", 3), ("drop 0", 2), ("drop 1", 1), ("drop 0", 0))

    def test_no_such_job(self):
        self.holds(
            ("begin", 0), ("drop 0", -2), ("job 0 1 1", 0), ("drop 1", -2), (f"drop {TOP}", -2),
            ("drop 0", 0), ("drop 0", -2),
        )

    def test_last_and_first_that_is_not_of_six(self):
        self.holds(*SIX, ("drop 6", -2), ("drop 5", 5), ("drop 5", -2))

    def test_those_behind_are_numbered_one_less(self):
        # Only what is wasted from 3 tells the jobs apart once 3 is the colour now.
        start = [("begin", 0)] + [(f"waste 3 {b} {b + 1}", 0) for b in (0, 1, 2)]
        jobs = [("job 3 1 1", 0), ("run 0", 0, 0), ("job 0 1 1", 0), ("job 1 1 1", 1), ("job 2 1 1", 2)]
        self.holds(*start, *jobs, ("drop 0", 2), ("run 1", 1, 3), ("run 1", -2), ("run 0", 2, 0))
        self.holds(*start, *jobs, ("drop 0", 2), ("run 0", 1, 2))
        self.holds(*start, *jobs, ("drop 1", 2), ("run 0", 1, 1))
        self.holds(*start, *jobs, ("drop 1", 2), ("run 1", 1, 3))
        self.holds(*start, *jobs, ("drop 2", 2), ("run 1", 1, 2))

    def test_those_behind_it_keep_what_they_are(self):
        jobs = [("begin", 0), ("job 0 10 1", 0), ("job 1 20 2", 1), ("job 2 30 3", 2), ("job 3 40 4", 3)]
        self.holds(
            *jobs, ("drop 1", 3), ("look 0", 0, 10, 1), ("look 1", 2, 30, 3), ("look 2", 3, 40, 4), ("look 3", -2),
        )

    def test_it_makes_no_core_wastes_nothing_and_leaves_the_colour(self):
        self.holds(
            ("begin", 0), ("waste 0 1 4", 0), ("waste 1 0 6", 0), ("waste 0 2 5", 0), ("waste 1 2 9", 0),
            ("job 0 1 1", 0), ("run 0", 0, 0), ("job 1 1 1", 0), ("job 2 1 1", 1), ("sums", 2, 1, 0, 1), ("drop 0", 1),
            ("sums", 1, 1, 0, 1), ("run 0", 1, 5),
        )

    def test_a_refusal_changes_nothing(self):
        self.holds(("begin", 0), ("job 0 1 1", 0), ("job 1 1 1", 1), ("drop 2", -2), ("order", 2, 0, 1), ("drop 1", 1))


class Run(LineCase):
    def test_a_first_one_wastes_nothing(self):
        written = [(f"waste {a} {b} 9", 0) for a, b in PAIRS]
        for colour in range(6):
            self.holds(("begin", 0), *written, (f"job {colour} 5 5", 0), ("run 0", 0, 0))

    def test_cores_are_numbered_as_they_are_made(self):
        self.holds(
            ("begin", 0), ("waste 0 1 30", 0), ("waste 1 0 70", 0), ("job 0 9 3", 0), ("job 1 9 3", 1),
            ("job 0 9 3", 2), ("run 1", 0, 0), ("run 1", 1, 70), ("job 1 4 4", 1), ("run 1", 2, 30), ("run 0", 3, 70),
        )

    def test_one_colour_again_wastes_nothing(self):
        self.holds(
            ("begin", 0), ("waste 4 3 8", 0), ("waste 3 4 9", 0), ("job 4 9 3", 0), ("job 4 9 3", 1), ("job 3 1 1", 2),
            ("run 0", 0, 0), ("run 0", 1, 0), ("run 0", 2, 8),
        )

    def test_the_change_itself_is_wasted_though_another_way_is_cheaper(self):
        self.holds(
            ("begin", 0), ("waste 0 1 100", 0), ("waste 0 2 1", 0), ("waste 2 1 1", 0),
            ("job 0 1 1", 0), ("job 1 1 1", 1), ("run 0", 0, 0), ("run 0", 1, 100),
        )

    def test_those_behind_are_numbered_one_less(self):
        start = [("begin", 0)] + [(f"waste {a} {b} {10 * a + b}", 0) for a in range(4) for b in range(4) if a != b]
        jobs = [(f"job {j} 1 1", j) for j in range(4)]
        self.holds(*start, *jobs, ("run 1", 0, 0), ("run 1", 1, 12), ("run 1", 2, 23), ("run 1", -2), ("run 0", 3, 30))

    def test_no_such_job(self):
        self.holds(
            ("begin", 0), ("run 0", -2), ("job 0 1 1", 0), ("run 1", -2), (f"run {TOP}", -2), ("run 0", 0, 0),
            ("run 0", -2),
        )
        self.holds(*SIX, ("run 6", -2), ("run 5", 0, 0), ("run 5", -2))

    def test_a_refusal_changes_nothing(self):
        self.holds(
            ("begin", 0), ("waste 0 1 4", 0), ("waste 1 0 6", 0), ("job 0 1 1", 0), ("run 0", 0, 0), ("job 1 1 1", 0),
            ("run 1", -2), ("best", 0, 4), ("order", 1, 0), ("run 0", 1, 4),
        )

    def test_as_many_cores_as_a_line_can_make(self):
        texts = ["begin"]
        wanted = [[0]]
        for core in range(39):
            texts += ["job 0 5000 5000", "run 0"]
            wanted += [[0], [core, 0]]
        self.assertEqual(ask(texts), wanted)

    def test_what_a_run_keeps(self):
        self.holds(
            ("begin", 0), ("waste 2 4 30", 0), ("job 4 50 5", 0), ("job 2 700 70", 1), ("job 2 60 6", 2),
            ("run 1", 0, 0), ("sums", 2, 1, 0, 3), ("look 0", 4, 50, 5), ("look 1", 2, 60, 6),
            ("run 0", 1, 30), ("sums", 1, 2, 30, 5), ("look 0", 2, 60, 6),
            ("run 0", 2, 0), ("sums", 0, 3, 30, 3), ("look 0", -2),
            ("core 0", 2, 700), ("core 1", 4, 50), ("core 2", 2, 60),
        )


if __name__ == "__main__":
    unittest.main()
