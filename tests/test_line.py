"""The list of calls, the list of answers, and what stands ahead of the promises."""

import unittest

from colouredcores.works import answers
from tests.lines import NAMES, TOP, LineCase, ask

ARGUMENTS = (0, 3, 3, 1, 1, 0, 0, 6, 1, 1, 0, 2, 0, 2, 1, 2, 2, 2, 1, 1, 0)


class Sealed(list):
    """A list that can be read, and fails when it is changed."""

    def refuse(self, *args, **kwargs):
        raise AssertionError("the list handed in was changed")

    append = extend = insert = pop = remove = clear = sort = reverse = refuse
    __setitem__ = __delitem__ = __iadd__ = __imul__ = refuse


WHOLE_LINE = [
    0,
    1, 0, 1, 30,
    1, 1, 0, 70,
    2, 1, 500, 100,
    2, 0, 400, 400,
    5,
    6,
    7, 0, 1, 9, 9, 9, 9,
    8, 0,
    9, 0,
    10,
    4, 1,
    4, 0,
    2, 0, 1, 1,
    3, 0,
]

WHOLE_ANSWER = [
    1, 0,
    1, 0,
    1, 0,
    1, 0,
    1, 1,
    2, 0, 30,
    3, 2, 1, 0,
    2, 0, 70,
    2, 0, 0,
    2, 0, 30,
    1, 1,
    2, 0, 0,
    2, 1, 30,
    1, 0,
    1, 0,
]


class Whole(unittest.TestCase):
    def test_every_call_in_one_list(self):
        self.assertEqual(answers(WHOLE_LINE), WHOLE_ANSWER)

    def test_one_call_alone(self):
        self.assertEqual(answers([0]), [1, 0])

    def test_list_handed_in_is_never_changed(self):
        sealed = Sealed(WHOLE_LINE)
        self.assertEqual(answers(sealed), WHOLE_ANSWER)
        self.assertEqual(list(sealed), WHOLE_LINE)

    def test_nothing_is_kept_from_one_time_to_the_next(self):
        self.assertEqual(answers(WHOLE_LINE), WHOLE_ANSWER)
        self.assertEqual(answers([5]), [1, -11])
        self.assertEqual(answers([0, 1, 0, 1, 5]), [1, 0, 1, 0])
        self.assertEqual(answers(WHOLE_LINE), WHOLE_ANSWER)

    def test_changing_what_was_given_back_changes_no_later_answer(self):
        given = answers(WHOLE_LINE)
        given.clear()
        self.assertEqual(answers(WHOLE_LINE), WHOLE_ANSWER)

    def test_eighty_calls_with_six_jobs(self):
        texts = ["begin"] + [f"job {colour} 5000 1" for colour in range(6)] + ["saves 5"] * 73
        self.assertEqual(ask(texts), [[0]] + [[j] for j in range(6)] + [[0, 0]] * 73)

    def test_eighty_calls_of_the_longest_kind(self):
        calls = [0] + [7, 0, 0, 0, 0, 0, 0] * 79
        self.assertEqual(answers(calls), [1, 0] + [2, 0, 0] * 79)


class AheadOfBegin(LineCase):
    def test_each_call_alone(self):
        for number, count in enumerate(ARGUMENTS):
            if number > 0:
                with self.subTest(call=NAMES[number]):
                    self.assertEqual(answers([number] + [0] * count), [1, -11])

    def test_each_call_is_passed_over_whole(self):
        for number, count in enumerate(ARGUMENTS):
            if number > 0:
                with self.subTest(call=NAMES[number]):
                    self.assertEqual(answers([number] + [TOP] * count + [0, 5]), [1, -11, 1, 0, 2, 0, 0])

    def test_it_comes_ahead_of_every_other_refusal(self):
        self.holds(
            (f"waste {TOP} {TOP} {TOP}", -11), (f"job {TOP} {TOP} {TOP}", -11), (f"drop {TOP}", -11),
            (f"run {TOP}", -11), (f"would {TOP}", -11), (f"saves {TOP}", -11), ("next", -11),
            ("attempt 9 9 9 9 9 9", -11),
        )

    def test_what_was_refused_then_left_nothing(self):
        self.holds(
            ("waste 0 1 5", -11), ("job 0 1 1", -11), ("begin", 0),
            ("order", 0), ("waste 0 1 6", 0), ("job 0 1 1", 0), ("drop 0", 0),
        )


class BeginAgain(LineCase):
    def test_all_is_as_new(self):
        self.holds(
            ("begin", 0), ("waste 0 1 5", 0), ("waste 1 0 6", 0), ("job 0 2 2", 0), ("job 1 2 2", 1),
            ("run 0", 0, 0), ("best", 0, 5),
            ("begin", 0), ("order", 0), ("best", 0, 0), ("next", -33), ("drop 0", -2),
            ("waste 0 1 5", 0), ("waste 1 0 6", 0),
            ("job 1 2 2", 0), ("best", 0, 0), ("run 0", 0, 0),
        )

    def test_at_once(self):
        self.holds(("begin", 0), ("begin", 0), ("best", 0, 0))


if __name__ == "__main__":
    unittest.main()
