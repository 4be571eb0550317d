"""Point 1: fo_start."""

import unittest

from lines import BOUND, DAY, LACKS, NOTICE, RATIFIED, RATIFY, START, TOP, ask, last, looks

GOOD = (3, 2, 5, 30, 60, 1)


def start_with(place, value):
    terms = list(GOOD)
    terms[place] = value
    return last((START, *terms))


class Taken(unittest.TestCase):
    def test_ordinary_terms(self):
        self.assertEqual(last((START, *GOOD)), [0])

    def test_least_terms(self):
        self.assertEqual(last((START, 1, 1, 0, 0, 1, 0)), [0])

    def test_greatest_terms(self):
        self.assertEqual(last((START, 10, 10, 1023, 365, 365, 10)), [0])
        self.assertEqual(last((START, 1, 1, 1, 365, 365, 1)), [0])

    def test_floor_may_be_above_need(self):
        self.assertEqual(last((START, 3, 1, 0, 0, 1, 3)), [0])

    def test_more_may_be_named_than_needed(self):
        self.assertEqual(last((START, 3, 1, 7, 0, 1, 0)), [0])

    def test_edges_of_each_term(self):
        for place, values in enumerate([(3, 10), (1, 3), (0, 7), (0, 365), (1, 365), (0, 3)]):
            for value in values:
                with self.subTest(place=place, value=value):
                    self.assertEqual(start_with(place, value), [0])


class Refused(unittest.TestCase):
    def test_each_term_by_itself(self):
        wrong = [(0, 11, TOP), (0, 4, TOP), (8, 16, TOP), (366, TOP), (0, 366, TOP), (4, TOP)]
        for place, values in enumerate(wrong):
            for value in values:
                with self.subTest(place=place, value=value):
                    self.assertEqual(start_with(place, value), [-22])

    def test_eleven_states_with_all_else_fitting(self):
        self.assertEqual(last((START, 11, 1, 0, 0, 1, 0)), [-22])

    def test_no_states(self):
        self.assertEqual(last((START, 0, 0, 0, 0, 1, 0)), [-22])

    def test_named_just_above_all_of_ten(self):
        self.assertEqual(last((START, 10, 1, 1024, 0, 1, 0)), [-22])

    def test_named_just_above_the_one(self):
        self.assertEqual(last((START, 1, 1, 2, 0, 1, 0)), [-22])

    def test_several_refused_then_one_taken(self):
        told = ask((START, 0, 0, 0, 0, 0, 0), (START, TOP, TOP, TOP, TOP, TOP, TOP), (START, *GOOD))
        self.assertEqual(told, [[-22], [-22], [0]])


class Again(unittest.TestCase):
    def test_new_terms_and_nothing_done(self):
        told = ask(
            (START, 3, 1, 0, 7, 60, 1), (RATIFY, 0, 9000), (DAY,),
            (START, 2, 2, 2, 0, 10, 0), (DAY,), (RATIFIED, 9000), (LACKS, 9000), (BOUND, 2, 9000),
            (RATIFY, 1, 4), (NOTICE, 1, 5),
        )
        self.assertEqual(told, [[0], [1], [9007], [0], [-33], [0, 0], [2, 2], [-2], [1], [15]])

    def test_refused_leaves_all_as_it_was(self):
        begun = [(START, 3, 2, 5, 3, 6, 2), (RATIFY, 0, 1), (RATIFY, 2, 4), (NOTICE, 2, 5)]
        shown = looks(3, [0, 1, 4, 6, 7, 10, 11, 12])
        behind = [(NOTICE, 0, 4), (NOTICE, 0, 9), (RATIFY, 2, 11)]
        for wrong in [(11, 1, 0, 0, 1, 0), (1, 2, 0, 0, 1, 0), (1, 1, 2, 0, 1, 0),
                      (1, 1, 0, 366, 1, 0), (1, 1, 0, 0, 0, 0), (1, 1, 0, 0, 1, 2)]:
            with self.subTest(wrong=wrong):
                plain = ask(*begun, *shown, *behind, *shown)
                told = ask(*begun, (START, *wrong), *shown, *behind, *shown)
                self.assertEqual(told[4], [-22])
                self.assertEqual(told[:4] + told[5:], plain)
