"""The interface: how the list is read, and what is given back."""

import unittest

from lines import BOUND, DAY, ENDS, LACKS, NOTICE, PARTIES, RATIFIED, RATIFY, START, TOP, flat
from treatyforce.treaty import CallNotBuilt, answers, split_calls

LINE = [(START, 11, 1, 0, 0, 1, 0), (START, 3, 2, 1, 5, 4, 1), (RATIFY, 0, 1), (RATIFY, 2, 3), (NOTICE, 0, 4), (DAY,),
        (ENDS,), (BOUND, 2, 8), (PARTIES, 8), (RATIFIED, 7), (LACKS, 8), (BOUND, 3, 8)]
TOLD = [1, -22, 1, 0, 1, 1, 1, 2, 1, 8, 1, 8, 1, -61, 1, 1, 2, 1, 4, 2, 2, 5, 2, 1, 1, 1, -2]


class Form(unittest.TestCase):
    def test_counts_and_numbers(self):
        self.assertEqual(answers(flat(LINE)), TOLD)

    def test_whole_numbers_alone(self):
        told = answers(flat(LINE))
        self.assertIs(list, type(told))
        self.assertEqual({int}, {type(number) for number in told})

    def test_one_refused_start(self):
        self.assertEqual(answers([0, 0, 0, 0, 0, 0, 0]), [1, -22])

    def test_refusal_is_one_number(self):
        self.assertEqual(answers([0, 1, 1, 0, 0, 1, 0, 3, 4]), [1, 0, 1, -33, 1, -33])

    def test_thousand_calls(self):
        told = answers([0, 10, 10, 1023, 365, 365, 10] + [6, TOP] * 999)
        self.assertEqual(told, [1, 0] + [2, 0, 0] * 999)

    def test_calls_are_parted_as_the_interface_tells(self):
        widths = [6, 2, 2, 0, 0, 2, 1, 1, 1, 1, 1, 2, 1, 1, 0, 1, 0, 0]
        calls = [(number, [100 + k for k in range(width)]) for number, width in enumerate(widths)]
        line = flat([(number, *given) for number, given in calls])
        self.assertEqual(split_calls(line + line), calls + calls)

    def test_calls_that_are_not_built_are_not_answered_wrongly(self):
        for call in [(9, 0), (10, 0), (11, 0, 0), (12, 0), (13, 0), (14,), (15, 0), (16,), (17,)]:
            with self.assertRaises(CallNotBuilt):
                answers([0, 1, 1, 0, 0, 1, 0] + list(call))


class Kept(unittest.TestCase):
    def test_list_handed_in_is_as_it_was(self):
        line = flat(LINE)
        answers(line)
        self.assertEqual(line, flat(LINE))

    def test_same_when_called_twice(self):
        line = flat(LINE)
        self.assertEqual(answers(line), answers(line))

    def test_nothing_kept_from_another_line(self):
        other = [0, 2, 1, 0, 0, 1, 1, 1, 1, 9000]
        shown = [0, 2, 1, 0, 0, 1, 1, 7, 9000, 3]
        answers(other)
        self.assertEqual(answers(shown), [1, 0, 2, 0, 0, 1, -33])

    def test_answer_handed_back_is_new(self):
        line = flat(LINE)
        answers(line).append(5)
        self.assertEqual(answers(line), TOLD)
