"""The interface: how the list is read, and what is given back."""

import unittest

from lines import (BACK, BOUND, DAY, DAYS, ENDS, EVENT, FEWEST, LACKS, MOST, NOTICE, PARTIES, RATIFIED, RATIFY, SINCE,
                   START, STATE, TOP, UNTIL, WOULD, ask, flat)
from treatyforce.treaty import answers, split_calls

# How many numbers each call is given.
WIDTHS = [6, 2, 2, 0, 0, 2, 1, 1, 1, 1, 1, 2, 1, 1, 0, 1, 0, 0]

# All 18 calls, and what each tells.
PAIRS = [
    ((START, 11, 1, 0, 0, 1, 0), [-22]), ((START, 3, 2, 1, 5, 4, 1), [0]), ((FEWEST, 0), [2, 3]),
    ((WOULD, 5, 0), [5]), ((RATIFY, 0, 1), [1]), ((RATIFY, 2, 3), [2]), ((NOTICE, 0, 4), [8]), ((DAY,), [8]),
    ((ENDS,), [-61]), ((BOUND, 2, 8), [1]), ((PARTIES, 8), [1, 4]), ((RATIFIED, 7), [2, 5]), ((LACKS, 8), [1, 1]),
    ((BOUND, 3, 8), [-2]), ((SINCE, 2), [8]), ((SINCE, 0), [-33]), ((UNTIL, 2), [-61]), ((DAYS, 2), [9993]),
    ((MOST,), [1, 8]), ((EVENT, 2), [0, 0, 4]), ((EVENT, 3), [-2]), ((STATE,), [3, 3, 2, 1, 5, 4, 1, 4]),
    ((FEWEST, 4), [-17]), ((BACK,), [2]), ((STATE,), [2, 3, 2, 1, 5, 4, 1, 3]),
]
LINE = [call for call, told in PAIRS]
TOLD = flat([[len(told), *told] for call, told in PAIRS])


class Form(unittest.TestCase):
    def test_counts_and_numbers(self):
        self.assertEqual(answers(flat(LINE)), TOLD)

    def test_whole_numbers_alone(self):
        told = answers(flat(LINE))
        self.assertIs(list, type(told))
        self.assertEqual({int}, {type(number) for number in told})

    def test_one_refused_start(self):
        self.assertEqual(answers([0, 0, 0, 0, 0, 0, 0]), [1, -22])

    def test_refusal_is_one_number(self):
        self.assertEqual(answers([0, 1, 1, 0, 0, 1, 0, 3, 4]), [1, 0, 1, -33, 1, -33])

    def test_thousand_calls(self):
        told = answers([0, 10, 10, 1023, 365, 365, 10] + [6, TOP] * 999)
        # Not assertEqual: to show how lists as long as these differ would take minutes.
        self.assertTrue(told == [1, 0] + [2, 0, 0] * 999)

    def test_calls_are_parted_as_the_interface_tells(self):
        calls = [(number, [100 + k for k in range(width)]) for number, width in enumerate(WIDTHS)]
        line = flat([(number, *given) for number, given in calls])
        self.assertEqual(split_calls(line + line), calls + calls)

    def test_all_calls_are_in_the_line(self):
        self.assertEqual({call[0] for call in LINE}, set(range(18)))

    def test_every_call_is_answered(self):
        begun = [(START, 1, 1, 0, 0, 1, 0), (RATIFY, 0, 3), (NOTICE, 0, 5)]
        calls = [(START, 1, 1, 0, 0, 1, 0), (RATIFY, 0, 6), (NOTICE, 0, 6), (DAY,), (ENDS,), (BOUND, 0, 4),
                 (PARTIES, 4), (RATIFIED, 4), (LACKS, 6), (SINCE, 0), (UNTIL, 0), (WOULD, 1, 6), (FEWEST, 6), (DAYS, 0),
                 (MOST,), (EVENT, 0), (BACK,), (STATE,)]
        wanted = [[0], [1], [-6], [3], [-61], [1], [1, 1], [1, 1], [1, 0], [3], [6], [3], [-17], [3], [1, 3], [1, 0, 3],
                  [1], [2, 1, 1, 0, 0, 1, 0, 5]]
        self.assertEqual([call[0] for call in calls], list(range(18)))
        self.assertEqual([ask(*begun, call)[-1] for call in calls], wanted)

    def test_greatest_numbers(self):
        calls = [(kind, *[TOP] * width) for kind, width in enumerate(WIDTHS)]
        wanted = [[-22], [-2], [-2], [-33], [-33], [-2], [0, 0], [0, 0], [1, 1], [-2], [-2], [-22], [-22], [-2], [-33],
                  [-2], [-2], [0, 1, 1, 1, 0, 1, 0, 0]]
        self.assertEqual(ask((START, 1, 1, 1, 0, 1, 0), *calls), [[0]] + wanted)

    def test_longest_line(self):
        told = answers([0, 10, 10, 1023, 365, 365, 10] * 1000)
        self.assertTrue(told == [1, 0] * 1000)


class Unchangeable(list):
    def refuse(self, *given):
        raise AssertionError('the list handed in was changed')

    __setitem__ = __delitem__ = __iadd__ = __imul__ = refuse
    append = clear = extend = insert = pop = remove = reverse = sort = refuse


class Kept(unittest.TestCase):
    def test_list_handed_in_is_not_changed_for_a_while_either(self):
        self.assertEqual(answers(Unchangeable(flat(LINE))), TOLD)

    def test_list_handed_in_is_as_it_was(self):
        line = flat(LINE)
        answers(line)
        self.assertEqual(line, flat(LINE))

    def test_same_when_called_twice(self):
        line = flat(LINE)
        self.assertEqual(answers(line), answers(line))

    def test_nothing_kept_from_another_line(self):
        other = [0, 2, 1, 0, 0, 1, 1, 1, 1, 9000]
        shown = [0, 2, 1, 0, 0, 1, 1, 7, 9000, 3]
        answers(other)
        self.assertEqual(answers(shown), [1, 0, 2, 0, 0, 1, -33])

    def test_answer_handed_back_is_new(self):
        line = flat(LINE)
        answers(line).append(5)
        self.assertEqual(answers(line), TOLD)
