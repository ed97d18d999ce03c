"""The list of calls, the list of answers, and what stands ahead of the promises."""

import unittest

from colouredcores.works import answers
from tests.lines import NAMES, TOP, LineCase, ask

ARGUMENTS = (0, 3, 3, 1, 1, 0, 0, 6, 1, 1, 0, 2, 0, 2, 1, 2, 2, 2, 1, 1, 0)


class Sealed(list):
    """A list that can be read, and fails when it is changed."""

    def refuse(self, *args, **kwargs):
        raise AssertionError("the list handed in was changed")

    append = extend = insert = pop = remove = clear = sort = reverse = refuse
    __setitem__ = __delitem__ = __iadd__ = __imul__ = refuse


WHOLE_LINE = [
    0,
    1, 0, 1, 30,
    1, 1, 0, 70,
    2, 1, 500, 100,
    2, 0, 400, 400,
    5,
    6,
    7, 0, 1, 9, 9, 9, 9,
    8, 0,
    9, 0,
    10,
    4, 1,
    4, 0,
    2, 0, 1, 1,
    3, 0,
    11, 0, 1,
    12,
    13, 1, 99,
    14, 1,
    15, 1, 100,
    16, 1, 99,
    17, 1, 4,
    18, 1,
    2, 5, 60, 20,
    19, 0,
    20,
]

WHOLE_ANSWER = [
    1, 0,
    1, 0,
    1, 0,
    1, 0,
    1, 1,
    2, 0, 30,
    3, 2, 1, 0,
    2, 0, 70,
    2, 0, 0,
    2, 0, 30,
    1, 1,
    2, 0, 0,
    2, 1, 30,
    1, 0,
    1, 0,
    1, 0,
    5, 2, 0, 1, 1, 0,
    1, 1,
    3, 2, 99, 400,
    1, 4,
    1, 5,
    1, 100,
    3, 1, 500, 99,
    1, 0,
    3, 5, 60, 20,
    4, 1, 2, 30, 2,
]


class Whole(unittest.TestCase):
    def test_every_call_in_one_list(self):
        self.assertEqual(answers(WHOLE_LINE), WHOLE_ANSWER)

    def test_one_call_alone(self):
        self.assertEqual(answers([0]), [1, 0])

    def test_list_handed_in_is_never_changed(self):
        sealed = Sealed(WHOLE_LINE)
        self.assertEqual(answers(sealed), WHOLE_ANSWER)
        self.assertEqual(list(sealed), WHOLE_LINE)

    def test_nothing_is_kept_from_one_time_to_the_next(self):
        self.assertEqual(answers(WHOLE_LINE), WHOLE_ANSWER)
        self.assertEqual(answers([5]), [1, -11])
        self.assertEqual(answers([0, 1, 0, 1, 5]), [1, 0, 1, 0])
        self.assertEqual(answers(WHOLE_LINE), WHOLE_ANSWER)

    def test_changing_what_was_given_back_changes_no_later_answer(self):
        given = answers(WHOLE_LINE)
        given.clear()
        self.assertEqual(answers(WHOLE_LINE), WHOLE_ANSWER)

    def test_each_call_is_in_it(self):
        seen = []
        at = 0
        while at < len(WHOLE_LINE):
            seen.append(WHOLE_LINE[at])
            at += 1 + ARGUMENTS[WHOLE_LINE[at]]
        self.assertEqual(sorted(set(seen)), list(range(21)))

    def test_eighty_calls_with_six_jobs(self):
        texts = ["begin"] + [f"job {colour} 5000 1" for colour in range(6)] + ["saves 5"] * 73
        self.assertEqual(ask(texts), [[0]] + [[j] for j in range(6)] + [[0, 0]] * 73)

    def test_eighty_calls_of_the_longest_kind(self):
        calls = [0] + [7, 0, 0, 0, 0, 0, 0] * 79
        self.assertEqual(answers(calls), [1, 0] + [2, 0, 0] * 79)

    def test_eighty_calls_on_long_cores(self):
        texts = ["begin"]
        wanted = [[0]]
        for c in range(3):
            texts += ["job 0 5000 1", "run 0"] + [f"spark {c} {p}" for p in range(4999, 4991, -1)]
            wanted += [[0], [c, 0]] + [[count + 1] for count in range(8)]
        self.assertEqual(ask(texts + ["longest 0 4"] * 49), wanted + [[2496]] * 49)
        self.assertEqual(ask(texts + ["stock 0 1"] * 49), wanted + [[14976]] * 49)
        self.assertEqual(ask(texts + ["pieces 2"] * 49), wanted + [[9, 4992] + [0] * 8] * 49)

    def test_eighty_calls_of_detours(self):
        self.assertEqual(ask(["begin", "waste 3 4 1"] + ["detours"] * 78), [[0], [0]] + [[1, 3, 4]] * 78)


class AheadOfBegin(LineCase):
    def test_each_call_alone(self):
        for number, count in enumerate(ARGUMENTS):
            if number > 0:
                with self.subTest(call=NAMES[number]):
                    self.assertEqual(answers([number] + [0] * count), [1, -11])

    def test_each_call_is_passed_over_whole(self):
        for number, count in enumerate(ARGUMENTS):
            if number > 0:
                with self.subTest(call=NAMES[number]):
                    self.assertEqual(answers([number] + [TOP] * count + [0, 5]), [1, -11, 1, 0, 2, 0, 0])

    def test_it_comes_ahead_of_every_other_refusal(self):
        self.holds(
            (f"waste {TOP} {TOP} {TOP}", -11), (f"job {TOP} {TOP} {TOP}", -11), (f"drop {TOP}", -11),
            (f"run {TOP}", -11), (f"would {TOP}", -11), (f"saves {TOP}", -11), ("next", -11),
            ("attempt 9 9 9 9 9 9", -11), (f"by {TOP} {TOP}", -11), (f"spark {TOP} {TOP}", -11), (f"pieces {TOP}", -11),
            ("good 0 0", -11), ("stock 6 0", -11), ("longest 6 0", -11), (f"core {TOP}", -11), (f"look {TOP}", -11),
        )

    def test_what_was_refused_then_left_nothing(self):
        self.holds(
            ("waste 0 1 5", -11), ("job 0 1 1", -11), ("begin", 0),
            ("order", 0), ("waste 0 1 6", 0), ("job 0 1 1", 0), ("drop 0", 0),
        )


class BeginAgain(LineCase):
    def test_all_is_as_new(self):
        self.holds(
            ("begin", 0), ("waste 0 1 5", 0), ("waste 1 0 6", 0), ("job 0 2 2", 0), ("job 1 2 2", 1),
            ("run 0", 0, 0), ("best", 0, 5),
            ("begin", 0), ("order", 0), ("best", 0, 0), ("next", -33), ("drop 0", -2),
            ("waste 0 1 5", 0), ("waste 1 0 6", 0),
            ("job 1 2 2", 0), ("best", 0, 0), ("run 0", 0, 0),
        )

    def test_cores_sparks_and_what_was_wasted_are_gone(self):
        self.holds(
            ("begin", 0), ("waste 0 1 5", 0), ("job 0 2 2", 0), ("job 1 2 2", 1), ("run 0", 0, 0), ("run 0", 1, 5),
            ("spark 0 1", 1), ("sums", 0, 2, 5, 2),
            ("begin", 0), ("sums", 0, 0, 0, 0), ("spark 0 0", -2), ("stock 0 1", 0), ("by 0 1", 0), ("detours", 0),
            ("job 0 2 2", 0), ("run 0", 0, 0), ("core 0", 0, 2), ("spark 0 1", 1),
        )

    def test_at_once(self):
        self.holds(("begin", 0), ("begin", 0), ("best", 0, 0))


if __name__ == "__main__":
    unittest.main()
