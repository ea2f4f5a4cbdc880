"""The interface: how calls and answers stand in their lists, and what is left alone."""

import contextlib
import io
import random
import unittest

import resistornets.nets
from asking import AMPERES, BEGIN, HIGHEST, LOWEST, OHMS, SOLVE, VOLTS, ask, drawn_net, flat, laying, split
from resistornets.nets import answers

MIXED = [
    BEGIN, SOLVE, ("nodes", 1), ("nodes", 3), ("part", OHMS, 0, 1, 10), ("volts", 0), ("part", VOLTS, 1, 2, -4), SOLVE,
    ("part", 9, LOWEST, HIGHEST, 0), ("change", 1, 1000001), ("change", 1, 6), ("part", AMPERES, 2, 0, 3), SOLVE,
    ("volts", 2), ("amperes", 0), ("watts", 1), ("between", 2, 0), ("watts", 3), ("between", 1, 1),
    ("nodes", 2), SOLVE, ("between", 0, 1), BEGIN, ("change", 0, 0), ("amperes", LOWEST),
]
MIXED_ANSWERS = [
    0, -4, -1, 0, 0, -3, 1, 1,
    -1, -1, 0, 2, 1,
    (24, 1), (-3, 1), (-18, 1), (10, 1), -1, -1,
    0, 0, -3, 0, -4, -4,
]


def count_and_answer(answer):
    """What stands in the list that is given back for one answer; the fractions of MIXED are of small whole numbers."""
    if isinstance(answer, int):
        return [1, answer]
    return [322, 0, 1 if answer[0] < 0 else 0, abs(answer[0])] + [0] * 159 + [answer[1]] + [0] * 159


def net_and_100_calls(draw):
    """A list of 200 calls: a net of 12 nodes and 24 parts, 25 each of volts, amperes, watts, between, and others."""
    calls = laying(12, drawn_net(draw, 12, 24, (1, 2, 999983, 1000000)))
    telling = [("volts", k % 12) for k in range(25)] + [("amperes", k % 24) for k in range(25)]
    telling += [("watts", 23 - k % 24) for k in range(25)] + [("between", k % 12, (k + 5) % 12) for k in range(25)]
    others = [SOLVE, ("part", OHMS, 0, 1, 1)] * 37
    rest = telling + others
    draw.shuffle(rest)
    return calls + rest


class Interface(unittest.TestCase):
    def test_written_out_number_by_number(self):
        calls = [0, 1, 2, 2, 0, 0, 1, 5, 3, 0, 7, 4, 2, 0, 0, 0, 5, 1, 13]
        self.assertEqual(resistornets.nets.answers(calls), [1, 0, 1, 0, 1, 0, 1, 0, 1, 1, 1, -1, 1, -1])

    def test_a_count_stands_before_each_answer(self):
        expected = []
        for answer in MIXED_ANSWERS:
            expected.extend(count_and_answer(answer))
        self.assertEqual(answers(flat(MIXED)), expected)
        self.assertEqual(ask(*MIXED), MIXED_ANSWERS)

    def test_a_fraction_written_out_number_by_number(self):
        laid = [0, 1, 3, 2, 1, 1, 0, 10, 2, 0, 1, 2, 3, 2, 0, 2, 0, 4]
        before = [1, 0, 1, 0, 1, 0, 1, 1, 1, 2]
        self.assertEqual(answers(laid), before)
        for call, sign, divided, divisor in (
                ([5, 2], 0, [40], [7]), ([6, 0], 1, [10], [7]), ([7, 2], 0, [144, 1], [49]), ([8, 2, 0], 0, [12], [7])):
            told = [322, 0, sign] + divided + [0] * (160 - len(divided)) + divisor + [0] * 159
            self.assertEqual(answers(laid + call + [4]), before + told + [1, 1], call)

    def test_begin_alone(self):
        self.assertEqual(answers([0]), [1, 0])

    def test_numbers_that_look_like_calls_are_not_taken_for_them(self):
        self.assertEqual(ask(BEGIN, ("nodes", 4), ("part", 2, 3, 1, 0), ("change", 0, 4)), [0, 0, 0, 0])
        calls = [("volts", 5), ("amperes", 6), ("watts", 7), ("between", 8, 8), ("volts", 8), ("between", 5, 12)]
        self.assertEqual(ask(BEGIN, ("nodes", 5), *calls), [0, 0] + [-1] * 6)

    def test_200_calls(self):
        calls = [BEGIN, ("nodes", 12)]
        calls += [("part", OHMS, k % 12, (k + 1) % 12, 1 + k) for k in range(24)]
        calls += [("change", k % 24, 1000000 - k) for k in range(87)] + [SOLVE] * 87
        self.assertEqual(len(calls), 200)
        self.assertEqual(ask(*calls), [0, 0] + list(range(24)) + [0] * 87 + [1] * 87)

    def test_100_calls_that_tell_fractions_among_200(self):
        calls = net_and_100_calls(random.Random(5))
        self.assertEqual(len(calls), 200)
        numbers = flat(calls)
        kept = list(numbers)
        told = answers(numbers)
        self.assertEqual(numbers, kept)
        self.assertEqual(answers(numbers), told)
        for call, answer in zip(calls[26:], split(told)[26:]):
            if call == SOLVE:
                self.assertEqual(answer, [1])
            elif call[0] == "part":
                self.assertEqual(answer, [-2])
            else:
                self.assertEqual((len(answer), answer[0]), (322, 0), call)
        self.assertEqual(sum(len(answer) == 322 for answer in split(told)), 100)

    def test_an_answer_doesnt_hang_on_the_calls_before_it_that_only_tell(self):
        calls = net_and_100_calls(random.Random(6))
        told = ask(*calls)
        for at in range(26, 200, 7):
            self.assertEqual(ask(*calls[:26], calls[at])[26], told[at], calls[at])

    def test_200_calls_of_many_nets(self):
        calls, expected = [], []
        for k in range(40):
            calls += [BEGIN, ("nodes", 2), ("part", k % 3, 0, 1, k + 1), SOLVE, ("change", 0, k + 2)]
            expected += [0, 0, 0, 0 if k % 3 == AMPERES else 1, 0]
        self.assertEqual(len(calls), 200)
        self.assertEqual(ask(*calls), expected)

    def test_the_list_that_is_handed_in_is_not_changed(self):
        calls = flat(MIXED)
        kept = list(calls)
        told = answers(calls)
        self.assertEqual(calls, kept)
        self.assertIsNot(told, calls)

    def test_not_changed_for_a_while_either(self):
        class Watched(list):
            def refuse(self, *values):
                raise AssertionError("the list was changed")

            append = extend = insert = pop = remove = clear = sort = reverse = refuse
            __setitem__ = __delitem__ = __iadd__ = __imul__ = refuse

        self.assertEqual(answers(Watched(flat(MIXED))), answers(flat(MIXED)))

    def test_the_same_when_asked_twice(self):
        first = answers(flat(MIXED))
        kept = list(first)
        first.append(99)
        self.assertEqual(answers(flat(MIXED)), kept)

    def test_nothing_is_kept_from_one_time_to_the_next(self):
        self.assertEqual(ask(BEGIN, ("nodes", 2), ("part", OHMS, 0, 1, 1), SOLVE), [0, 0, 0, 1])
        self.assertEqual(answers([4]), [1, -4])
        self.assertEqual(ask(BEGIN, ("nodes", 2), SOLVE, ("change", 0, 1)), [0, 0, 0, -1])

    def test_whole_numbers_alone_are_given_back(self):
        told = answers(flat(MIXED))
        self.assertIs(type(told), list)
        self.assertEqual({type(number) for number in told}, {int})

    def test_nothing_is_printed(self):
        out, err = io.StringIO(), io.StringIO()
        with contextlib.redirect_stdout(out), contextlib.redirect_stderr(err):
            answers(flat(MIXED))
        self.assertEqual(out.getvalue() + err.getvalue(), "")


if __name__ == "__main__":
    unittest.main()
