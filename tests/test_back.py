"""Point 2: fo_back, fo_event, fo_state."""

import unittest

from lines import (BACK, DAY, ENDS, EVENT, NOTICE, RATIFIED, RATIFY, START, STATE, TOP, after, ask, last, looks,
                   twenty_four)

TERMS = (START, 3, 2, 5, 6, 10, 1)
BEGUN = [TERMS, (RATIFY, 2, 4), (RATIFY, 0, 4), (NOTICE, 2, 7)]


class Back(unittest.TestCase):
    def test_nothing_done(self):
        self.assertEqual(last(TERMS, (BACK,)), [-2])

    def test_one_after_another(self):
        self.assertEqual(after(BEGUN, (BACK,), (BACK,), (BACK,), (BACK,), (BACK,)), [[2], [1], [0], [-2], [-2]])

    def test_what_was_done_last_is_not(self):
        told = after(BEGUN, (RATIFIED, 17), (BACK,), (RATIFIED, 17), (BACK,), (RATIFIED, 17), (BACK,), (RATIFIED, 17))
        self.assertEqual(told[::2], [[1, 1], [2, 5], [1, 4], [0, 0]])

    def test_an_earlier_day_is_free_again(self):
        self.assertEqual(after(BEGUN, (RATIFY, 1, 5), (BACK,), (RATIFY, 1, 5)), [[-13], [2], [3]])

    def test_done_again(self):
        self.assertEqual(after(BEGUN, (NOTICE, 2, 7), (BACK,), (NOTICE, 2, 8), (RATIFY, 2, 17), (RATIFY, 2, 18)),
                         [[-17], [2], [18], [-16], [2]])

    def test_the_day_of_force_is_not_known_any_more(self):
        self.assertEqual(after(BEGUN, (DAY,), (BACK,), (DAY,), (BACK,), (DAY,)), [[10], [2], [10], [1], [-33]])

    def test_an_end_does_not_stand_any_more(self):
        begun = [(START, 1, 1, 0, 0, 5, 1), (RATIFY, 0, 0), (NOTICE, 0, 3)]
        self.assertEqual(after(begun, (ENDS,), (BACK,), (ENDS,)), [[8], [1], [-61]])

    def test_one_more_may_be_done_when_full(self):
        self.assertEqual(after(twenty_four(2), (RATIFY, 1, 12), (BACK,), (RATIFY, 1, 12), (RATIFY, 0, 12)),
                         [[-28], [23], [2], [-17]])

    def test_a_start_is_not_taken_back(self):
        self.assertEqual(after(BEGUN, (START, 2, 1, 0, 0, 1, 0), (BACK,), (STATE,)),
                         [[0], [-2], [0, 2, 1, 0, 0, 1, 0, 0]])

    def test_a_refused_deed_is_not_taken_back(self):
        self.assertEqual(after(BEGUN, (RATIFY, 3, 8), (RATIFY, 0, 8), (BACK,), (EVENT, 1)),
                         [[-2], [-17], [2], [1, 0, 4]])

    def test_all_is_answered_as_before(self):
        deeds = [(RATIFY, 2, 4), (RATIFY, 0, 4), (NOTICE, 2, 7), (RATIFY, 1, 9), (RATIFY, 2, 17), (NOTICE, 0, 20)]
        shown = looks(3, [0, 4, 7, 9, 10, 16, 17, 20, 29, 30, 31, 10000, 10001])
        for many in range(len(deeds)):
            begun = [TERMS] + deeds[:many]
            plain = after(begun, *shown)
            behind = deeds[many:]
            told = after(begun, *behind, *[(BACK,)] * len(behind), *shown)
            self.assertEqual(told[2 * len(behind):], plain)

    def test_refused_leaves_all_as_it_was(self):
        shown = looks(3, [0, 5, 10000])
        self.assertEqual(after([TERMS, (BACK,)], *shown), after([TERMS], *shown))


class Event(unittest.TestCase):
    def test_nothing_done(self):
        self.assertEqual(ask(TERMS, (EVENT, 0), (EVENT, 1), (EVENT, TOP)), [[0], [-2], [-2], [-2]])

    def test_each(self):
        told = after(BEGUN, (EVENT, 0), (EVENT, 1), (EVENT, 2), (EVENT, 3), (EVENT, TOP))
        self.assertEqual(told, [[1, 2, 4], [1, 0, 4], [0, 2, 7], [-2], [-2]])

    def test_last_state_and_last_day(self):
        begun = [(START, 10, 1, 0, 0, 365, 0), (RATIFY, 9, 10000), (NOTICE, 9, 10000)]
        self.assertEqual(after(begun, (EVENT, 0), (EVENT, 1)), [[1, 9, 10000], [0, 9, 10000]])

    def test_twenty_four(self):
        told = after(twenty_four(1), *[(EVENT, k) for k in range(25)])
        self.assertEqual(told, [[k, 0, day] for day in range(12) for k in (1, 0)] + [[-2]])

    def test_taken_back(self):
        self.assertEqual(after(BEGUN, (BACK,), (EVENT, 2), (EVENT, 1)), [[2], [-2], [1, 0, 4]])

    def test_refused_deeds_are_none(self):
        self.assertEqual(after(BEGUN, (RATIFY, 0, 9), (NOTICE, 1, 9), (EVENT, 3)), [[-17], [-6], [-2]])


class State(unittest.TestCase):
    def test_nothing_done(self):
        self.assertEqual(last(TERMS, (STATE,)), [0, 3, 2, 5, 6, 10, 1, 0])

    def test_things_done(self):
        self.assertEqual(last(*BEGUN, (STATE,)), [3, 3, 2, 5, 6, 10, 1, 7])

    def test_something_done_on_day_none(self):
        self.assertEqual(last(TERMS, (RATIFY, 0, 0), (STATE,)), [1, 3, 2, 5, 6, 10, 1, 0])

    def test_greatest(self):
        terms = (START, 10, 10, 1023, 365, 365, 10)
        self.assertEqual(last(terms, (RATIFY, 0, 10000), (STATE,)), [1, 10, 10, 1023, 365, 365, 10, 10000])
        self.assertEqual(last(*twenty_four(1), (STATE,)), [24, 1, 1, 0, 0, 1, 0, 11])

    def test_least(self):
        self.assertEqual(last((START, 1, 1, 0, 0, 1, 0), (STATE,)), [0, 1, 1, 0, 0, 1, 0, 0])

    def test_taken_back(self):
        self.assertEqual(last(*BEGUN, (BACK,), (STATE,)), [2, 3, 2, 5, 6, 10, 1, 4])
        self.assertEqual(last(*BEGUN, (BACK,), (BACK,), (BACK,), (STATE,)), [0, 3, 2, 5, 6, 10, 1, 0])

    def test_started_again(self):
        self.assertEqual(last(*BEGUN, (START, 4, 1, 8, 1, 2, 3), (STATE,)), [0, 4, 1, 8, 1, 2, 3, 0])

    def test_refused_start(self):
        self.assertEqual(last(*BEGUN, (START, 4, 5, 8, 1, 2, 3), (STATE,)), [3, 3, 2, 5, 6, 10, 1, 7])
