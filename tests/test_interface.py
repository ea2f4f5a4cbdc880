"""The interface: how calls and answers stand in their lists, and what is left alone."""

import contextlib
import io
import unittest

import resistornets.nets
from asking import AMPERES, BEGIN, HIGHEST, LOWEST, OHMS, SOLVE, VOLTS, ask, flat
from resistornets.nets import answers

MIXED = [
    BEGIN, SOLVE, ("nodes", 1), ("nodes", 3), ("part", OHMS, 0, 1, 10), ("part", VOLTS, 1, 2, -4), SOLVE,
    ("part", 9, LOWEST, HIGHEST, 0), ("change", 1, 1000001), ("change", 1, 6), ("part", AMPERES, 2, 0, 3), SOLVE,
    ("nodes", 2), SOLVE, BEGIN, ("change", 0, 0),
]
MIXED_ANSWERS = [0, -4, -1, 0, 0, 1, 1, -1, -1, 0, 2, 1, 0, 0, 0, -4]


class Interface(unittest.TestCase):
    def test_written_out_number_by_number(self):
        calls = [0, 1, 2, 2, 0, 0, 1, 5, 3, 0, 7, 4, 2, 0, 0, 0, 5, 1, 13]
        self.assertEqual(resistornets.nets.answers(calls), [1, 0, 1, 0, 1, 0, 1, 0, 1, 1, 1, -1, 1, -1])

    def test_a_count_stands_before_each_answer(self):
        expected = []
        for number in MIXED_ANSWERS:
            expected.extend([1, number])
        self.assertEqual(answers(flat(MIXED)), expected)

    def test_begin_alone(self):
        self.assertEqual(answers([0]), [1, 0])

    def test_numbers_that_look_like_calls_are_not_taken_for_them(self):
        self.assertEqual(ask(BEGIN, ("nodes", 4), ("part", 2, 3, 1, 0), ("change", 0, 4)), [0, 0, 0, 0])

    def test_200_calls(self):
        calls = [BEGIN, ("nodes", 12)]
        calls += [("part", OHMS, k % 12, (k + 1) % 12, 1 + k) for k in range(24)]
        calls += [("change", k % 24, 1000000 - k) for k in range(87)] + [SOLVE] * 87
        self.assertEqual(len(calls), 200)
        self.assertEqual(ask(*calls), [0, 0] + list(range(24)) + [0] * 87 + [1] * 87)

    def test_200_calls_of_many_nets(self):
        calls, expected = [], []
        for k in range(40):
            calls += [BEGIN, ("nodes", 2), ("part", k % 3, 0, 1, k + 1), SOLVE, ("change", 0, k + 2)]
            expected += [0, 0, 0, 0 if k % 3 == AMPERES else 1, 0]
        self.assertEqual(len(calls), 200)
        self.assertEqual(ask(*calls), expected)

    def test_the_list_that_is_handed_in_is_not_changed(self):
        calls = flat(MIXED)
        kept = list(calls)
        told = answers(calls)
        self.assertEqual(calls, kept)
        self.assertIsNot(told, calls)

    def test_not_changed_for_a_while_either(self):
        class Watched(list):
            def refuse(self, *values):
                raise AssertionError("the list was changed")

            append = extend = insert = pop = remove = clear = sort = reverse = refuse
            __setitem__ = __delitem__ = __iadd__ = __imul__ = refuse

        self.assertEqual(answers(Watched(flat(MIXED))), answers(flat(MIXED)))

    def test_the_same_when_asked_twice(self):
        first = answers(flat(MIXED))
        kept = list(first)
        first.append(99)
        self.assertEqual(answers(flat(MIXED)), kept)

    def test_nothing_is_kept_from_one_time_to_the_next(self):
        self.assertEqual(ask(BEGIN, ("nodes", 2), ("part", OHMS, 0, 1, 1), SOLVE), [0, 0, 0, 1])
        self.assertEqual(answers([4]), [1, -4])
        self.assertEqual(ask(BEGIN, ("nodes", 2), SOLVE, ("change", 0, 1)), [0, 0, 0, -1])

    def test_whole_numbers_alone_are_given_back(self):
        told = answers(flat(MIXED))
        self.assertIs(type(told), list)
        self.assertEqual({type(number) for number in told}, {int})

    def test_nothing_is_printed(self):
        out, err = io.StringIO(), io.StringIO()
        with contextlib.redirect_stdout(out), contextlib.redirect_stderr(err):
            answers(flat(MIXED))
        self.assertEqual(out.getvalue() + err.getvalue(), "")


if __name__ == "__main__":
    unittest.main()
