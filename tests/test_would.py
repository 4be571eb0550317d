"""Point 4: fo_would and fo_fewest."""

import unittest

from lines import BACK, DAY, FEWEST, NOTICE, RATIFY, START, STATE, TOP, WOULD, after, last, looks, twenty_four

TERMS = (START, 4, 3, 2, 5, 10, 1)

# State 0 has ratified, state 3 is on notice until it's out on day 16.
BEGUN = [TERMS, (RATIFY, 0, 4), (RATIFY, 3, 5), (NOTICE, 3, 6)]


class Would(unittest.TestCase):
    def test_all_that_are_needed(self):
        self.assertEqual(last(TERMS, (WOULD, 7, 9)), [14])
        self.assertEqual(last(TERMS, (WOULD, 14, 0)), [5])

    def test_too_few(self):
        self.assertEqual(last(TERMS, (WOULD, 3, 9)), [-33])

    def test_a_named_one_lacks(self):
        self.assertEqual(last(TERMS, (WOULD, 13, 9)), [-33])

    def test_beside_those_who_have(self):
        self.assertEqual(last(*BEGUN[:3], (WOULD, 2, 9)), [14])
        self.assertEqual(last(*BEGUN[:3], (WOULD, 4, 9)), [-33])

    def test_some_have_ratified_already(self):
        self.assertEqual(last(*BEGUN[:3], (WOULD, 11, 9)), [14])
        self.assertEqual(last(*BEGUN[:3], (WOULD, 9, 9)), [-33])
        self.assertEqual(last(*BEGUN[:3], (WOULD, 1, 9)), [-33])

    def test_empty_set(self):
        self.assertEqual(last(TERMS, (WOULD, 0, 9)), [-33])
        self.assertEqual(last(*BEGUN, (WOULD, 0, 9)), [-33])
        self.assertEqual(last(*BEGUN, (RATIFY, 1, 8), (WOULD, 0, 9)), [13])

    def test_enough_as_it_is(self):
        for s in (0, 1, 4, 7):
            self.assertEqual(last(*BEGUN, (RATIFY, 1, 8), (WOULD, s, 5000)), [13])

    def test_one_on_notice_counts_that_day(self):
        self.assertEqual(last(*BEGUN, (WOULD, 2, 15)), [20])
        self.assertEqual(last(*BEGUN, (WOULD, 2, 16)), [-33])
        self.assertEqual(last(*BEGUN, (WOULD, 6, 16)), [21])

    def test_one_of_them_on_notice(self):
        for s in (8, 9, 10, 15):
            for day in (6, 15):
                self.assertEqual(last(*BEGUN, (WOULD, s, day)), [-16])

    def test_one_of_them_out(self):
        self.assertEqual(last(*BEGUN, (WOULD, 10, 16)), [21])
        self.assertEqual(last(*BEGUN, (WOULD, 8, 16)), [-33])
        self.assertEqual(last(*BEGUN, (WOULD, 14, 17)), [22])

    def test_no_set_of_these(self):
        for s in (16, 17, 1024, TOP):
            self.assertEqual(last(TERMS, (WOULD, s, 0)), [-22])
        self.assertEqual(last(TERMS, (WOULD, 15, 0)), [5])
        self.assertEqual(last((START, 10, 1, 0, 0, 1, 0), (WOULD, 1023, 0)), [0])
        self.assertEqual(last((START, 10, 1, 0, 0, 1, 0), (WOULD, 1024, 0)), [-22])

    def test_last_day(self):
        self.assertEqual(last(TERMS, (WOULD, 15, 10000)), [10005])
        self.assertEqual(last(TERMS, (WOULD, 15, 10001)), [-22])
        self.assertEqual(last(TERMS, (WOULD, 15, TOP)), [-22])

    def test_something_done_later(self):
        self.assertEqual(last(*BEGUN, (WOULD, 2, 5)), [-13])
        self.assertEqual(last(*BEGUN, (WOULD, 2, 6)), [11])

    def test_when_full(self):
        self.assertEqual(last(*twenty_four(2), (WOULD, 2, 11)), [0])
        begun = [(START, 2, 2, 0, 7, 1, 0)] + twenty_four(2)[1:]
        self.assertEqual(after(begun, (WOULD, 2, 11), (WOULD, 2, 12), (WOULD, 3, 12)), [[18], [-33], [19]])

    def test_order_of_refusals(self):
        self.assertEqual(last(*BEGUN, (WOULD, 24, 5)), [-22])
        self.assertEqual(last(*BEGUN, (WOULD, 24, 6)), [-22])
        self.assertEqual(last(*BEGUN, (WOULD, 8, 10001)), [-22])
        self.assertEqual(last(*BEGUN, (WOULD, 8, 5)), [-13])
        self.assertEqual(last(*BEGUN, (WOULD, 0, 5)), [-13])
        self.assertEqual(last(*BEGUN, (WOULD, 8, 6)), [-16])

    def test_nothing_is_done_by_it(self):
        asked = [(WOULD, 2, 9), (WOULD, 0, 9), (WOULD, 4, 9), (WOULD, 16, 9), (WOULD, 2, 5), (WOULD, 8, 9)]
        shown = looks(4, [0, 4, 6, 9, 14, 16, 10000])
        self.assertEqual(after(BEGUN, *asked), [[14], [-33], [-33], [-22], [-13], [-16]])
        self.assertEqual(after(BEGUN + asked, *shown), after(BEGUN, *shown))

    def test_taken_back(self):
        self.assertEqual(after(BEGUN, (BACK,), (WOULD, 10, 9), (BACK,), (WOULD, 2, 9)), [[2], [14], [1], [-33]])


class Fewest(unittest.TestCase):
    def test_nothing_done(self):
        self.assertEqual(last((START, 4, 3, 0, 5, 10, 1), (FEWEST, 0)), [3, 7])
        self.assertEqual(last((START, 10, 10, 1023, 0, 1, 0), (FEWEST, 0)), [10, 1023])
        self.assertEqual(last((START, 1, 1, 0, 0, 1, 0), (FEWEST, 0)), [1, 1])

    def test_named_one_lacks(self):
        self.assertEqual(last(TERMS, (FEWEST, 0)), [3, 7])
        self.assertEqual(last((START, 4, 2, 8, 5, 10, 1), (FEWEST, 0)), [2, 9])
        self.assertEqual(last((START, 4, 1, 8, 5, 10, 1), (FEWEST, 0)), [1, 8])

    def test_more_named_than_needed(self):
        self.assertEqual(last((START, 6, 1, 56, 5, 10, 1), (FEWEST, 0)), [3, 56])
        self.assertEqual(last((START, 4, 1, 14, 5, 10, 1), (FEWEST, 0)), [3, 14])
        self.assertEqual(last((START, 4, 1, 14, 5, 10, 1), (RATIFY, 0, 0), (RATIFY, 2, 0), (FEWEST, 0)), [2, 10])

    def test_as_many_as_needed_but_a_named_one(self):
        begun = [(START, 4, 2, 8, 5, 10, 1), (RATIFY, 0, 0), (RATIFY, 1, 0), (RATIFY, 2, 0)]
        self.assertEqual(last(*begun, (FEWEST, 0)), [1, 8])

    def test_least_number_of_like_ones(self):
        begun = [(START, 5, 3, 0, 5, 10, 1), (RATIFY, 0, 0)]
        self.assertEqual(last(*begun, (FEWEST, 0)), [2, 6])
        self.assertEqual(last(*begun, (RATIFY, 2, 0), (FEWEST, 0)), [1, 2])
        self.assertEqual(last((START, 5, 3, 16, 5, 10, 1), (RATIFY, 1, 0), (FEWEST, 0)), [2, 17])

    def test_one_on_notice_counts_that_day(self):
        self.assertEqual(last(*BEGUN, (FEWEST, 6)), [1, 2])
        self.assertEqual(last(*BEGUN, (FEWEST, 15)), [1, 2])
        self.assertEqual(last(*BEGUN, (FEWEST, 16)), [2, 6])

    def test_one_that_is_out_may_come_back(self):
        begun = [(START, 2, 2, 1, 5, 10, 1), (RATIFY, 0, 0), (NOTICE, 0, 1)]
        self.assertEqual(after(begun, (FEWEST, 10), (FEWEST, 11)), [[1, 2], [2, 3]])

    def test_last_day(self):
        self.assertEqual(last(TERMS, (FEWEST, 10000)), [3, 7])
        self.assertEqual(last(TERMS, (FEWEST, 10001)), [-22])
        self.assertEqual(last(TERMS, (FEWEST, TOP)), [-22])

    def test_something_done_later(self):
        self.assertEqual(last(*BEGUN, (FEWEST, 5)), [-13])

    def test_enough_as_it_is(self):
        self.assertEqual(last(*BEGUN, (RATIFY, 1, 8), (FEWEST, 8)), [-17])

    def test_enough_once(self):
        begun = [(START, 2, 2, 0, 0, 3, 0), (RATIFY, 0, 0), (RATIFY, 1, 0), (NOTICE, 0, 1), (NOTICE, 1, 1)]
        self.assertEqual(last(*begun, (FEWEST, 9)), [-17])

    def test_when_full(self):
        begun = [(START, 2, 2, 0, 7, 1, 0)] + twenty_four(2)[1:]
        self.assertEqual(after(begun, (FEWEST, 11), (FEWEST, 12)), [[1, 2], [2, 3]])

    def test_order_of_refusals(self):
        begun = BEGUN + [(RATIFY, 1, 8)]
        self.assertEqual(after(begun, (FEWEST, 10001), (FEWEST, 7), (FEWEST, 8)), [[-22], [-13], [-17]])

    def test_nothing_is_done_by_it(self):
        shown = looks(4, [0, 4, 6, 9, 14, 16, 10000])
        for begun in (BEGUN, BEGUN + [(RATIFY, 1, 8)]):
            asked = [(FEWEST, 9), (FEWEST, 5), (FEWEST, 10001)]
            self.assertEqual(after(begun + asked, *shown), after(begun, *shown))

    def test_enough_have_when_they_do(self):
        told = after(BEGUN, (FEWEST, 16), (RATIFY, 1, 16), (DAY,), (RATIFY, 2, 16), (DAY,), (STATE,))
        self.assertEqual(told, [[2, 6], [2], [-33], [3], [21], [5, 4, 3, 2, 5, 10, 1, 16]])
