"""Promise 4: spark, pieces, good, stock, longest, core, look, sums."""

import itertools
import unittest

from tests.lines import TOP, LineCase, ask, made_up


def cores(*made):
    """A begin, and cores of (colour, metres); nothing is wasted."""
    rows = [("begin", 0)]
    for number, (colour, metres) in enumerate(made):
        rows += [(f"job {colour} {metres} {metres}", 0), ("run 0", number, 0)]
    return rows


def sparks(c, *metres):
    """Sparks on a core that has none yet."""
    return [(f"spark {c} {p}", count + 1) for count, p in enumerate(metres)]


class Spark(LineCase):
    def test_it_answers_how_many_there_are(self):
        self.holds(
            *cores((3, 100)), ("spark 0 50", 1), ("spark 0 20", 2), ("spark 0 70", 3), ("core 0", 3, 100, 20, 50, 70),
        )

    def test_at_the_first_metre_and_at_the_last(self):
        self.holds(*cores((0, 10)), ("spark 0 0", 1), ("spark 0 9", 2), ("core 0", 0, 10, 0, 9))
        self.holds(*cores((0, 5000)), ("spark 0 4999", 1), ("spark 0 0", 2), ("core 0", 0, 5000, 0, 4999))

    def test_metre_at_the_edge(self):
        self.holds(*cores((0, 10)), ("spark 0 10", -22), ("spark 0 11", -22), (f"spark 0 {TOP}", -22), ("spark 0 9", 1))
        self.holds(*cores((0, 5000)), ("spark 0 5000", -22), ("spark 0 4999", 1))

    def test_by_its_own_metres(self):
        self.holds(
            *cores((0, 10), (0, 20)), ("spark 0 10", -22), ("spark 1 10", 1), ("spark 1 20", -22), ("spark 1 19", 2),
        )

    def test_a_core_of_one_metre(self):
        self.holds(
            *cores((4, 1)), ("spark 0 1", -22), ("spark 0 0", 1), ("spark 0 0", -17), ("spark 0 1", -22),
            ("core 0", 4, 1, 0), ("pieces 0", 2, 0, 0), ("good 0 1", 0), ("stock 4 1", 0), ("longest 4 1", -33),
        )

    def test_two_side_by_side(self):
        self.holds(*cores((0, 10)), ("spark 0 5", 1), ("spark 0 4", 2), ("spark 0 6", 3), ("core 0", 0, 10, 4, 5, 6))

    def test_it_sparked_there(self):
        self.holds(
            *cores((0, 10)), *sparks(0, 0, 5, 9), ("spark 0 5", -17), ("spark 0 0", -17), ("spark 0 9", -17),
            ("core 0", 0, 10, 0, 5, 9), ("spark 0 4", 4),
        )

    def test_each_core_has_its_own(self):
        self.holds(
            *cores((0, 10), (0, 10), (1, 10)), ("spark 1 5", 1), ("spark 0 5", 1), ("spark 2 5", 1), ("spark 1 6", 2),
            ("spark 1 5", -17), ("core 0", 0, 10, 5), ("core 1", 0, 10, 5, 6), ("core 2", 1, 10, 5),
        )

    def test_eight(self):
        self.holds(
            *cores((0, 100)), *sparks(0, 80, 10, 70, 20, 60, 30, 50, 40), ("spark 0 90", -28), ("spark 0 0", -28),
            ("spark 0 99", -28), ("core 0", 0, 100, 10, 20, 30, 40, 50, 60, 70, 80),
        )

    def test_eight_on_one_leave_room_on_another(self):
        self.holds(
            *cores((0, 100), (0, 100)), *sparks(0, *range(8)), ("spark 0 8", -28), *sparks(1, *range(8)),
            ("spark 1 8", -28),
        )

    def test_every_metre_of_eight(self):
        self.holds(
            *cores((0, 8)), *sparks(0, *range(7, -1, -1)), ("spark 0 8", -22), ("spark 0 7", -17),
            ("core 0", 0, 8, *range(8)), ("pieces 0", 9, *[0] * 9), ("good 0 1", 0), ("longest 0 1", -33),
        )

    def test_no_such_core(self):
        self.holds(
            ("begin", 0), ("spark 0 0", -2), ("job 0 9 9", 0), ("spark 0 0", -2), ("run 0", 0, 0), ("spark 0 0", 1),
            ("spark 1 0", -2), (f"spark {TOP} 0", -2),
        )

    def test_two_refusals_due(self):
        self.holds(
            *cores((0, 100)), ("spark 1 100", -2), (f"spark 1 {TOP}", -2), (f"spark {TOP} {TOP}", -2),
            *sparks(0, *range(0, 80, 10)), ("spark 0 70", -17), ("spark 0 0", -17), ("spark 0 30", -17),
            ("spark 0 100", -22), (f"spark 0 {TOP}", -22), ("spark 0 71", -28), ("spark 1 70", -2),
        )

    def test_a_refusal_changes_nothing(self):
        self.holds(
            *cores((0, 100), (0, 9)), *sparks(0, 7, 5, 6), ("spark 2 0", -2), ("spark 0 100", -22), ("spark 0 6", -17),
            ("spark 1 9", -22), ("core 0", 0, 100, 5, 6, 7), ("pieces 0", 4, 5, 0, 0, 92), ("core 1", 0, 9),
            ("good 0 5", 19), ("stock 0 5", 20), ("sums", 0, 2, 0, 1),
        )
        self.holds(
            *cores((0, 100)), *sparks(0, *range(8)), ("spark 0 50", -28), ("core 0", 0, 100, *range(8)),
            ("pieces 0", 9, *[0] * 8, 92), ("good 0 92", 1), ("stock 0 92", 1), ("longest 0 1", 92),
        )

    def test_jobs_colour_and_waste_are_left(self):
        self.holds(
            ("begin", 0), ("waste 0 1 30", 0), ("job 0 9 9", 0), ("job 1 9 9", 1), ("job 2 8 4", 2), ("run 0", 0, 0),
            ("run 0", 1, 30), ("spark 0 3", 1), ("spark 1 4", 1), ("sums", 1, 2, 30, 2), ("look 0", 2, 8, 4),
        )


class Pieces(LineCase):
    def test_without_sparks(self):
        self.holds(*cores((0, 1), (0, 5000), (3, 77)), ("pieces 0", 1, 1), ("pieces 1", 1, 5000), ("pieces 2", 1, 77))

    def test_a_spark_takes_its_metre(self):
        self.holds(*cores((0, 10)), ("spark 0 3", 1), ("pieces 0", 2, 3, 6), ("spark 0 7", 2), ("pieces 0", 3, 3, 3, 2))

    def test_at_the_first_metre(self):
        self.holds(*cores((0, 10)), ("spark 0 0", 1), ("pieces 0", 2, 0, 9))

    def test_at_the_last(self):
        self.holds(*cores((0, 10)), ("spark 0 9", 1), ("pieces 0", 2, 9, 0))

    def test_at_both(self):
        self.holds(*cores((0, 10)), ("spark 0 9", 1), ("spark 0 0", 2), ("pieces 0", 3, 0, 8, 0))
        self.holds(*cores((0, 2)), *sparks(0, 0, 1), ("pieces 0", 3, 0, 0, 0))
        self.holds(*cores((0, 3)), *sparks(0, 2, 0), ("pieces 0", 3, 0, 1, 0))

    def test_two_side_by_side(self):
        self.holds(*cores((0, 10)), *sparks(0, 4, 5), ("pieces 0", 3, 4, 0, 4))
        self.holds(*cores((0, 10)), *sparks(0, 1, 0), ("pieces 0", 3, 0, 0, 8))
        self.holds(*cores((0, 10)), *sparks(0, 8, 9), ("pieces 0", 3, 8, 0, 0))

    def test_one_metre_between_two(self):
        self.holds(*cores((0, 10)), *sparks(0, 4, 6), ("pieces 0", 3, 4, 1, 3))

    def test_in_order_whatever_the_order_of_the_sparks(self):
        for metres in itertools.permutations((10, 50, 90)):
            self.holds(*cores((0, 100)), *sparks(0, *metres), ("pieces 0", 4, 10, 39, 39, 9))

    def test_with_eight_there_are_nine(self):
        self.holds(
            *cores((0, 5000)), *sparks(0, 9, 99, 999, 4999, 0, 1, 500, 2500),
            ("pieces 0", 9, 0, 0, 7, 89, 400, 498, 1500, 2498, 0),
        )

    def test_no_such_core(self):
        self.holds(
            ("begin", 0), ("pieces 0", -2), ("job 0 9 9", 0), ("pieces 0", -2), ("run 0", 0, 0), ("pieces 0", 1, 9),
            ("pieces 1", -2), (f"pieces {TOP}", -2), ("sums", 0, 1, 0, 1),
        )


class Good(LineCase):
    def test_just_as_long_as_asked_and_one_metre_shorter(self):
        self.holds(*cores((0, 10)), ("good 0 9", 1), ("good 0 10", 1), ("good 0 11", 0))
        self.holds(
            *cores((0, 21)), ("spark 0 10", 1), ("good 0 10", 2), ("good 0 11", 0), ("good 0 9", 2),
            ("spark 0 20", 2), ("good 0 10", 1), ("good 0 9", 2),
        )

    def test_several_out_of_one(self):
        self.holds(
            *cores((0, 10)), ("good 0 5", 2), ("good 0 6", 1), ("good 0 4", 2), ("good 0 3", 3), ("good 0 2", 5),
            ("good 0 1", 10),
        )

    def test_each_out_of_one_piece(self):
        # 7, 7 and 7: what is left of one is of no use to the next.
        self.holds(
            *cores((0, 23)), *sparks(0, 7, 15), ("pieces 0", 3, 7, 7, 7), ("good 0 4", 3), ("good 0 3", 6),
            ("good 0 8", 0), ("good 0 7", 3), ("good 0 1", 21), ("good 0 2", 9),
        )

    def test_pieces_of_nothing(self):
        self.holds(*cores((0, 4)), *sparks(0, 0, 1, 3), ("pieces 0", 4, 0, 0, 1, 0), ("good 0 1", 1), ("good 0 2", 0))

    def test_how_long_the_job_wanted_them_is_all_one(self):
        self.holds(("begin", 0), ("job 0 10 4", 0), ("run 0", 0, 0), ("good 0 5", 2), ("good 0 4", 2), ("good 0 1", 10))

    def test_metres_at_the_edge(self):
        self.holds(
            *cores((0, 5000)), ("good 0 0", -22), ("good 0 1", 5000), ("good 0 5000", 1), ("good 0 5001", 0),
            (f"good 0 {TOP}", 0),
        )

    def test_no_such_core(self):
        self.holds(("begin", 0), ("good 0 1", -2), ("job 0 9 9", 0), ("good 0 1", -2), ("run 0", 0, 0), ("good 0 1", 9),
                   ("good 1 1", -2), (f"good {TOP} 1", -2))

    def test_two_refusals_due(self):
        self.holds(("begin", 0), ("good 0 0", -2), *cores((0, 9))[1:], ("good 1 0", -2), (f"good {TOP} 0", -2),
                   ("good 0 0", -22))

    def test_of_that_core_alone(self):
        self.holds(*cores((0, 10), (0, 20), (1, 30)), ("good 0 5", 2), ("good 1 5", 4), ("good 2 5", 6))

    def test_a_refusal_changes_nothing(self):
        self.holds(*cores((0, 9)), ("spark 0 4", 1), ("good 0 0", -22), ("good 1 1", -2), ("core 0", 0, 9, 4),
                   ("pieces 0", 2, 4, 4), ("good 0 4", 2), ("sums", 0, 1, 0, 1))


class Stock(LineCase):
    def test_several_cores_of_one_colour_beside_others(self):
        self.holds(
            *cores((2, 10), (3, 100), (2, 25), (4, 7), (2, 5)), ("stock 2 5", 8), ("stock 3 5", 20), ("stock 4 5", 1),
            ("stock 0 5", 0), ("stock 2 10", 3), ("stock 2 26", 0), ("stock 2 25", 1), ("stock 2 1", 40),
        )

    def test_each_out_of_one_piece_of_one_core(self):
        self.holds(
            *cores((2, 7), (2, 7)), ("stock 2 4", 2), ("stock 2 14", 0), ("stock 2 8", 0), ("stock 2 7", 2),
            ("spark 0 3", 1), ("stock 2 4", 1), ("stock 2 3", 4), ("stock 2 7", 1),
        )

    def test_just_as_long_as_asked_and_one_metre_shorter(self):
        self.holds(
            *cores((5, 12), (5, 13)), ("stock 5 12", 2), ("stock 5 13", 1), ("stock 5 14", 0), ("stock 5 6", 4),
            ("spark 1 12", 1), ("stock 5 13", 0), ("stock 5 12", 2), ("spark 0 11", 1), ("stock 5 12", 1),
        )

    def test_sparks_on_others_are_all_one(self):
        self.holds(*cores((0, 10), (1, 10)), ("spark 1 5", 1), ("stock 0 10", 1), ("stock 1 10", 0), ("stock 1 4", 2))

    def test_no_cores(self):
        self.holds(("begin", 0), *[(f"stock {c} 1", 0) for c in range(6)], ("job 0 9 9", 0), ("stock 0 1", 0))

    def test_each_colour(self):
        made = cores(*[(colour, 10 * colour + 1) for colour in range(6)])
        self.holds(*made, *[(f"stock {colour} 1", 10 * colour + 1) for colour in range(6)])

    def test_colour_at_the_edge(self):
        made = cores(*[(5, 10)] * 8)
        self.holds(*made, ("stock 5 10", 8), ("stock 6 10", -22), ("stock 7 10", -22), (f"stock {TOP} 10", -22))

    def test_metres_at_the_edge(self):
        self.holds(
            *cores((0, 5000), (0, 5000)), ("stock 0 0", -22), ("stock 0 1", 10000), ("stock 0 5000", 2),
            ("stock 0 5001", 0), (f"stock 0 {TOP}", 0),
        )

    def test_both_wrong(self):
        self.holds(("begin", 0), ("stock 6 0", -22), (f"stock {TOP} 0", -22), (f"stock {TOP} {TOP}", -22))

    def test_a_refusal_changes_nothing(self):
        self.holds(*cores((0, 9)), ("spark 0 4", 1), ("stock 0 0", -22), ("stock 6 1", -22), ("core 0", 0, 9, 4),
                   ("stock 0 4", 2), ("sums", 0, 1, 0, 1))


class Longest(LineCase):
    def test_one_core(self):
        self.holds(
            *cores((0, 10)), ("longest 0 1", 10), ("longest 0 2", 5), ("longest 0 3", 3), ("longest 0 4", 2),
            ("longest 0 5", 2), ("longest 0 6", 1), ("longest 0 10", 1), ("longest 0 11", -33),
        )

    def test_at_its_least_and_its_greatest(self):
        self.holds(
            *cores((0, 5000)), ("longest 0 1", 5000), ("longest 0 2", 2500), ("longest 0 3", 1666),
            ("longest 0 2500", 2), ("longest 0 2501", 1), ("longest 0 5000", 1), ("longest 0 5001", -33),
        )
        self.holds(*cores((0, 1)), ("longest 0 1", 1), ("longest 0 2", -33))
        self.holds(*cores((0, 2)), ("longest 0 1", 2), ("longest 0 2", 1), ("longest 0 3", -33))
        self.holds(*cores((0, 5000), (0, 5000)), ("longest 0 2", 5000), ("longest 0 3", 2500), ("longest 0 10000", 1),
                   ("longest 0 10001", -33))

    def test_several_cores_of_one_colour_beside_others(self):
        self.holds(
            *cores((2, 10), (3, 4000), (2, 25), (2, 7)), ("longest 2 1", 25), ("longest 2 2", 12), ("longest 2 3", 10),
            ("longest 2 4", 8), ("longest 2 5", 7), ("longest 2 6", 6), ("longest 2 42", 1), ("longest 2 43", -33),
            ("longest 3 1", 4000), ("longest 4 1", -33),
        )

    def test_where_there_are_more_than_asked(self):
        # Of 6 metres there are four at once, of 7 none.
        self.holds(*cores((0, 6), (0, 6), (0, 6), (0, 6)), *[(f"longest 0 {k}", 6) for k in (1, 2, 3, 4)],
                   ("longest 0 5", 3), ("longest 0 8", 3), ("longest 0 9", 2))

    def test_with_sparks(self):
        self.holds(
            *cores((1, 100)), ("longest 1 1", 100), ("spark 0 40", 1), ("longest 1 1", 59), ("longest 1 2", 40),
            ("longest 1 3", 29), ("longest 1 99", 1), ("longest 1 100", -33), ("spark 0 99", 2), ("longest 1 1", 58),
            ("longest 1 98", 1), ("longest 1 99", -33),
        )

    def test_all_sparked(self):
        self.holds(*cores((1, 2)), *sparks(0, 0, 1), ("longest 1 1", -33), (f"longest 1 {TOP}", -33))

    def test_no_cores(self):
        self.holds(("begin", 0), *[(f"longest {c} 1", -33) for c in range(6)], ("job 0 9 9", 0), ("longest 0 1", -33))

    def test_colour_at_the_edge(self):
        made = cores(*[(5, 10)] * 8)
        self.holds(*made, ("longest 5 8", 10), ("longest 6 1", -22), ("longest 7 1", -22), (f"longest {TOP} 1", -22))

    def test_how_many_at_the_edge(self):
        self.holds(*cores((0, 9)), ("longest 0 0", -22), ("longest 0 1", 9), ("longest 0 9", 1), ("longest 0 10", -33),
                   (f"longest 0 {TOP}", -33))

    def test_two_refusals_due(self):
        self.holds(("begin", 0), ("longest 6 0", -22), ("longest 0 0", -22), ("longest 6 1", -22),
                   (f"longest {TOP} {TOP}", -22), (f"longest 6 {TOP}", -22), (f"longest {TOP} 0", -22))

    def test_a_refusal_changes_nothing(self):
        self.holds(*cores((0, 9)), ("spark 0 4", 1), ("longest 0 0", -22), ("longest 6 1", -22), ("longest 0 9", -33),
                   ("core 0", 0, 9, 4), ("longest 0 8", 1), ("longest 0 2", 4), ("sums", 0, 1, 0, 1))


class CoreCall(LineCase):
    def test_without_sparks(self):
        self.holds(*cores((0, 1), (5, 5000), (3, 77)), ("core 0", 0, 1), ("core 1", 5, 5000), ("core 2", 3, 77))

    def test_sparks_come_rising(self):
        for metres in itertools.permutations((0, 7, 30, 31, 49)):
            self.holds(*cores((2, 50)), *sparks(0, *metres), ("core 0", 2, 50, 0, 7, 30, 31, 49))

    def test_sparks_come_rising_as_numbers(self):
        self.holds(*cores((2, 5000)), *sparks(0, 1000, 9, 200, 30), ("core 0", 2, 5000, 9, 30, 200, 1000))

    def test_numbered_as_they_are_made(self):
        self.holds(
            ("begin", 0), ("job 0 10 1", 0), ("job 1 20 1", 1), ("job 2 30 1", 2), ("run 1", 0, 0), ("core 0", 1, 20),
            ("spark 0 19", 1), ("run 1", 1, 0), ("run 0", 2, 0), ("core 0", 1, 20, 19), ("core 1", 2, 30),
            ("core 2", 0, 10),
        )

    def test_no_such_core(self):
        self.holds(("begin", 0), ("core 0", -2), ("job 0 9 9", 0), ("core 0", -2), ("run 0", 0, 0), ("core 0", 0, 9),
                   ("core 1", -2), (f"core {TOP}", -2), ("sums", 0, 1, 0, 1))

    def test_the_last_of_many(self):
        made = cores(*[(1, 10)] * 30)
        self.holds(
            *made, ("core 29", 1, 10), ("core 30", -2), ("spark 29 9", 1), ("spark 30 9", -2), ("stock 1 10", 29),
        )


class Look(LineCase):
    def test_as_told(self):
        self.holds(
            ("begin", 0), ("job 5 5000 1", 0), ("job 0 1 1", 1), ("job 3 77 76", 2), ("look 0", 5, 5000, 1),
            ("look 1", 0, 1, 1), ("look 2", 3, 77, 76),
        )

    def test_no_such_job(self):
        self.holds(
            ("begin", 0), ("look 0", -2), ("job 1 9 3", 0), ("look 0", 1, 9, 3), ("look 1", -2), (f"look {TOP}", -2),
            ("run 0", 0, 0), ("look 0", -2), ("sums", 0, 1, 0, 2),
        )

    def test_six(self):
        jobs = [(f"job {j} {10 + j} {1 + j}", j) for j in range(6)]
        self.holds(("begin", 0), *jobs, *[(f"look {j}", j, 10 + j, 1 + j) for j in range(6)], ("look 6", -2))

    def test_a_number_that_a_core_has_is_no_job(self):
        self.holds(*cores((0, 9), (0, 9)), ("job 1 5 2", 0), ("look 0", 1, 5, 2), ("look 1", -2), ("core 1", 0, 9))


class Sums(LineCase):
    def test_ahead_of_the_first_run_and_behind_it(self):
        self.holds(
            ("begin", 0), ("sums", 0, 0, 0, 0), ("job 0 9 9", 0), ("sums", 1, 0, 0, 0), ("job 5 9 9", 1),
            ("sums", 2, 0, 0, 0), ("run 0", 0, 0), ("sums", 1, 1, 0, 1), ("run 0", 1, 0), ("sums", 0, 2, 0, 6),
        )

    def test_each_colour_now(self):
        for colour in range(6):
            self.holds(*cores((colour, 5)), ("sums", 0, 1, 0, colour + 1))

    def test_what_was_wasted_is_summed(self):
        self.holds(
            ("begin", 0), ("waste 0 1 30", 0), ("waste 1 0 70", 0), ("job 0 9 9", 0), ("job 1 9 9", 1),
            ("job 0 9 9", 2), ("job 0 9 9", 3), ("run 0", 0, 0), ("run 0", 1, 30), ("sums", 2, 2, 30, 2),
            ("run 0", 2, 70), ("sums", 1, 3, 100, 1), ("run 0", 3, 0), ("sums", 0, 4, 100, 1),
        )

    def test_what_is_only_asked_is_not_wasted(self):
        self.holds(
            ("begin", 0), ("waste 0 1 30", 0), ("job 0 9 9", 0), ("run 0", 0, 0), ("job 1 9 9", 0), ("best", 0, 30),
            ("order", 1, 0), ("attempt 0 0 0 0 0 0", 0, 30), ("would 1", 0, 0), ("saves 0", 0, 30), ("next", 0),
            ("by 0 1", 0), ("sums", 1, 1, 0, 1), ("waste 0 1 0", 30), ("sums", 1, 1, 0, 1),
        )

    def test_a_change_of_waste_changes_nothing_that_was_wasted(self):
        self.holds(
            ("begin", 0), ("waste 0 1 1000", 0), *cores((0, 9))[1:], ("job 1 9 9", 0), ("run 0", 1, 1000),
            ("waste 0 1 5", 1000), ("sums", 0, 2, 1000, 2),
        )

    def test_behind_a_second_begin(self):
        self.holds(
            ("begin", 0), ("waste 0 1 30", 0), ("job 0 9 9", 0), ("job 1 9 9", 1), ("run 0", 0, 0), ("run 0", 1, 30),
            ("job 1 9 9", 0), ("sums", 1, 2, 30, 2), ("begin", 0), ("sums", 0, 0, 0, 0), ("core 0", -2), ("look 0", -2),
            ("stock 0 1", 0), ("longest 0 1", -33), *cores((1, 7))[1:], ("core 0", 1, 7), ("sums", 0, 1, 0, 2),
        )

    def test_sparks_are_gone_behind_a_second_begin(self):
        self.holds(
            *cores((1, 7)), *sparks(0, 3, 4), *cores((1, 7)), ("core 0", 1, 7), ("pieces 0", 1, 7), ("spark 0 3", 1),
        )

    def test_the_most_that_can_be_wasted(self):
        rows = [("begin", 0), ("waste 0 1 1000", 0), ("waste 1 0 1000", 0), ("job 0 1 1", 0), ("run 0", 0, 0)]
        for number in range(1, 38):
            rows += [(f"job {number % 2} 1 1", 0), ("run 0", number, 1000)]
        self.holds(*rows, ("sums", 0, 38, 37000, 2))


class WhatHolds(unittest.TestCase):
    def scenes(self):
        """Cores in two colours, with sparks, some of which are refused."""
        for seed in range(60):
            with self.subTest(seed=seed):
                numbers = made_up(seed, 60)
                most = (3, 30, 5000)[seed % 3]
                texts = ["begin"]
                for c in range(4):
                    texts += [f"job {numbers[c] % 2} {1 + numbers[4 + c] % most} 1", "run 0"]
                for at in range(10, 40):
                    texts.append(f"spark {numbers[at] % 4} {numbers[at + 20] % most}")
                yield texts

    def behind(self, texts, asked):
        return ask(texts + asked)[len(texts):]

    def test_pieces_are_all_that_did_not_spark(self):
        for texts in self.scenes():
            for c in range(4):
                core, pieces, good = self.behind(texts, [f"core {c}", f"pieces {c}", f"good {c} 1"])
                wire = "".join("x" if p in core[2:] else "." for p in range(core[1]))
                lengths = [len(piece) for piece in wire.split("x")]
                self.assertEqual(pieces, [len(lengths)] + lengths)
                self.assertEqual(good, [core[1] - len(core[2:])])

    def test_the_longest_is_the_longest(self):
        for texts in self.scenes():
            for colour in range(2):
                there = self.behind(texts, [f"stock {colour} 1"])[0][0]
                for k in (1, 2, 3, 5, 8, 13, 50, 300, there - 1, there):
                    if 1 <= k <= there:
                        n = self.behind(texts, [f"longest {colour} {k}"])[0][0]
                        given = self.behind(texts, [f"stock {colour} {n}", f"stock {colour} {n + 1}"])
                        self.assertGreaterEqual(given[0][0], k)
                        self.assertLess(given[1][0], k)
                self.assertEqual(self.behind(texts, [f"longest {colour} {there + 1}"]), [[-33]])

    def test_stock_is_what_is_good_of_each_core(self):
        for texts in self.scenes():
            kinds = [self.behind(texts, [f"core {c}"])[0][0] for c in range(4)]
            for n in (1, 2, 3, 7, 40, 900, 5000):
                good = [self.behind(texts, [f"good {c} {n}"])[0][0] for c in range(4)]
                stock = self.behind(texts, [f"stock {colour} {n}" for colour in range(6)])
                self.assertEqual(stock, [[sum(g for g, kind in zip(good, kinds) if kind == c)] for c in range(6)])


if __name__ == "__main__":
    unittest.main()
