"""Point 3: fo_day, fo_ends, fo_bound, fo_parties, fo_ratified, fo_lacks."""

import unittest

from lines import BOUND, DAY, ENDS, LACKS, NOTICE, PARTIES, RATIFIED, RATIFY, START, TOP, ask, last


class Comes(unittest.TestCase):
    """fo_day."""

    def test_nothing_done(self):
        self.assertEqual(last((START, 3, 1, 0, 0, 1, 0), (DAY,)), [-33])

    def test_too_few(self):
        self.assertEqual(last((START, 3, 2, 0, 0, 1, 0), (RATIFY, 0, 4), (DAY,)), [-33])

    def test_as_many_as_needed(self):
        told = last((START, 3, 2, 0, 5, 1, 0), (RATIFY, 0, 4), (RATIFY, 2, 9), (RATIFY, 1, 11), (DAY,))
        self.assertEqual(told, [14])

    def test_named_one_is_waited_for(self):
        terms = (START, 3, 2, 2, 5, 1, 0)
        self.assertEqual(last(terms, (RATIFY, 0, 4), (RATIFY, 2, 9), (DAY,)), [-33])
        self.assertEqual(last(terms, (RATIFY, 0, 4), (RATIFY, 2, 9), (RATIFY, 1, 20), (DAY,)), [25])

    def test_named_ones_alone_are_too_few(self):
        self.assertEqual(last((START, 3, 2, 2, 5, 1, 0), (RATIFY, 1, 4), (DAY,)), [-33])

    def test_all_named_though_fewer_needed(self):
        terms = (START, 3, 1, 7, 0, 1, 0)
        told = ask(terms, (RATIFY, 0, 1), (DAY,), (RATIFY, 1, 2), (DAY,), (RATIFY, 2, 3), (DAY,))
        self.assertEqual(told, [[0], [1], [-33], [2], [-33], [3], [3]])

    def test_one_state(self):
        self.assertEqual(last((START, 1, 1, 1, 0, 1, 1), (RATIFY, 0, 0), (DAY,)), [0])

    def test_ten_states(self):
        calls = [(START, 10, 10, 1023, 1, 1, 10)] + [(RATIFY, i, i) for i in range(9)]
        self.assertEqual(ask(*calls, (DAY,), (RATIFY, 9, 50), (DAY,), (PARTIES, 51))[-3:], [[10], [51], [10, 1023]])
        self.assertEqual(last(*calls, (DAY,)), [-33])

    def test_wait_of_none_and_of_most(self):
        for wait in (0, 365):
            terms = (START, 1, 1, 0, wait, 1, 0)
            told = ask(terms, (RATIFY, 0, 10000), (DAY,), (BOUND, 0, 9999 + wait), (BOUND, 0, 10000 + wait))
            self.assertEqual(told, [[0], [1], [10000 + wait], [0], [1]])

    def test_enough_lost_ahead_of_that_day(self):
        told = ask((START, 2, 2, 0, 20, 5, 0), (RATIFY, 0, 0), (RATIFY, 1, 3), (NOTICE, 1, 4), (DAY,), (ENDS,),
                   (PARTIES, 22), (PARTIES, 23))
        self.assertEqual(told, [[0], [1], [2], [9], [23], [-61], [0, 0], [1, 1]])

    def test_enough_on_the_first_day_alone_counts(self):
        told = ask((START, 2, 2, 0, 20, 5, 0), (RATIFY, 0, 0), (RATIFY, 1, 3), (NOTICE, 1, 4), (RATIFY, 1, 9), (DAY,))
        self.assertEqual(told[-1], [23])

    def test_one_out_as_the_other_ratifies(self):
        terms = (START, 2, 2, 0, 0, 5, 0)
        begun = [terms, (RATIFY, 0, 0), (NOTICE, 0, 1)]
        self.assertEqual(last(*begun, (RATIFY, 1, 5), (DAY,)), [5])
        self.assertEqual(last(*begun, (RATIFY, 1, 6), (DAY,)), [-33])
        self.assertEqual(last(*begun, (RATIFY, 1, 6), (RATIFY, 0, 6), (DAY,)), [6])
        self.assertEqual(last(*begun, (RATIFY, 1, 6), (RATIFY, 0, 8), (DAY,)), [8])

    def test_notice_on_the_same_day_takes_nothing_away(self):
        told = ask((START, 1, 1, 1, 0, 1, 1), (RATIFY, 0, 4), (NOTICE, 0, 4), (DAY,), (ENDS,), (BOUND, 0, 4),
                   (BOUND, 0, 5))
        self.assertEqual(told, [[0], [1], [5], [4], [5], [1], [0]])

    def test_does_not_change_by_what_is_done_later(self):
        begun = [(START, 3, 2, 1, 7, 2, 2), (RATIFY, 0, 1), (RATIFY, 1, 3)]
        later = [(RATIFY, 2, 3), (NOTICE, 0, 3), (NOTICE, 1, 4), (NOTICE, 2, 5), (RATIFY, 0, 40), (RATIFY, 1, 40)]
        for many in range(len(later) + 1):
            self.assertEqual(last(*begun, *later[:many], (DAY,)), [10])


class Ends(unittest.TestCase):
    """fo_ends."""

    def test_never_enough(self):
        self.assertEqual(last((START, 3, 2, 0, 0, 1, 2), (ENDS,)), [-33])
        self.assertEqual(last((START, 3, 2, 0, 0, 1, 2), (RATIFY, 0, 0), (NOTICE, 0, 0), (ENDS,)), [-33])

    def test_does_not_end(self):
        begun = [(START, 3, 2, 0, 0, 4, 2), (RATIFY, 0, 0), (RATIFY, 1, 0)]
        self.assertEqual(last(*begun, (ENDS,)), [-61])
        self.assertEqual(last(*begun, (RATIFY, 2, 1), (NOTICE, 0, 2), (ENDS,)), [-61])

    def test_fewer_than_the_floor(self):
        told = ask((START, 3, 2, 0, 0, 4, 2), (RATIFY, 0, 0), (RATIFY, 1, 0), (RATIFY, 2, 0), (NOTICE, 0, 3), (ENDS,),
                   (NOTICE, 1, 5), (ENDS,), (PARTIES, 8), (PARTIES, 9))
        self.assertEqual(told[4:], [[7], [-61], [9], [9], [2, 6], [0, 0]])

    def test_first_of_several_such_days(self):
        told = ask((START, 3, 3, 0, 0, 4, 3), (RATIFY, 0, 0), (RATIFY, 1, 0), (RATIFY, 2, 0), (NOTICE, 2, 3),
                   (NOTICE, 0, 5), (NOTICE, 1, 6), (ENDS,))
        self.assertEqual(told[-1], [7])

    def test_a_floor_of_none(self):
        told = ask((START, 1, 1, 1, 0, 1, 0), (RATIFY, 0, 0), (NOTICE, 0, 0), (ENDS,), (PARTIES, 0), (PARTIES, 1),
                   (RATIFY, 0, 9), (PARTIES, 9))
        self.assertEqual(told[3:], [[-61], [1, 1], [0, 0], [1], [1, 1]])

    def test_too_few_ahead_of_force_does_not_end_it(self):
        told = ask((START, 2, 2, 0, 20, 3, 2), (RATIFY, 0, 0), (RATIFY, 1, 0), (NOTICE, 1, 1), (RATIFY, 1, 20), (DAY,),
                   (ENDS,), (PARTIES, 19), (PARTIES, 20))
        self.assertEqual(told[5:], [[20], [-61], [0, 0], [2, 3]])

    def test_on_the_very_day_it_would_be_in_force(self):
        told = ask((START, 2, 2, 0, 20, 20, 2), (RATIFY, 0, 0), (RATIFY, 1, 0), (NOTICE, 1, 0), (DAY,), (ENDS,),
                   (PARTIES, 19), (PARTIES, 20), (PARTIES, 21), (BOUND, 0, 20))
        self.assertEqual(told[4:], [[20], [20], [0, 0], [0, 0], [0, 0], [0]])

    def test_too_few_since_long_ahead_ends_on_the_day_of_force(self):
        told = ask((START, 2, 2, 0, 20, 3, 2), (RATIFY, 0, 0), (RATIFY, 1, 0), (NOTICE, 1, 1), (DAY,), (ENDS,),
                   (RATIFY, 1, 21), (DAY,), (ENDS,), (PARTIES, 20), (PARTIES, 21))
        self.assertEqual(told[4:], [[20], [20], [2], [20], [20], [0, 0], [0, 0]])

    def test_on_the_day_behind_the_first(self):
        told = ask((START, 2, 2, 0, 20, 21, 2), (RATIFY, 0, 0), (RATIFY, 1, 0), (NOTICE, 1, 0), (DAY,), (ENDS,),
                   (PARTIES, 19), (PARTIES, 20), (PARTIES, 21))
        self.assertEqual(told[4:], [[20], [21], [0, 0], [2, 3], [0, 0]])

    def test_floor_above_need(self):
        begun = [(START, 3, 1, 0, 2, 1, 3), (RATIFY, 0, 5)]
        self.assertEqual(ask(*begun, (DAY,), (ENDS,), (PARTIES, 7))[2:], [[7], [7], [0, 0]])
        told = ask(*begun, (RATIFY, 1, 6), (RATIFY, 2, 7), (DAY,), (ENDS,), (PARTIES, 7))
        self.assertEqual(told[4:], [[7], [-61], [3, 7]])

    def test_never_in_force_again(self):
        told = ask((START, 2, 1, 0, 0, 2, 1), (RATIFY, 0, 0), (NOTICE, 0, 3), (RATIFY, 0, 6), (RATIFY, 1, 6), (DAY,),
                   (ENDS,), (PARTIES, 4), (PARTIES, 5), (PARTIES, 6), (PARTIES, TOP), (RATIFIED, 6), (BOUND, 0, 6))
        self.assertEqual(told[3:], [[1], [2], [0], [5], [1, 1], [0, 0], [0, 0], [0, 0], [2, 3], [0]])

    def test_back_on_the_very_day_it_is_out(self):
        begun = [(START, 1, 1, 1, 0, 5, 1), (RATIFY, 0, 0), (NOTICE, 0, 2)]
        self.assertEqual(last(*begun, (ENDS,)), [7])
        told = ask(*begun, (RATIFY, 0, 7), (ENDS,), (BOUND, 0, 6), (BOUND, 0, 7), (BOUND, 0, 8))
        self.assertEqual(told[3:], [[1], [-61], [1], [1], [1]])
        self.assertEqual(last(*begun, (RATIFY, 0, 8), (ENDS,)), [7])

    def test_another_in_its_place_on_that_day(self):
        begun = [(START, 2, 1, 0, 0, 5, 1), (RATIFY, 0, 0), (NOTICE, 0, 2)]
        self.assertEqual(last(*begun, (RATIFY, 1, 7), (ENDS,)), [-61])
        self.assertEqual(last(*begun, (RATIFY, 1, 8), (ENDS,)), [7])

    def test_latest_end(self):
        told = ask((START, 1, 1, 1, 365, 365, 1), (RATIFY, 0, 10000), (NOTICE, 0, 10000), (DAY,), (ENDS,))
        self.assertEqual(told[2:], [[10365], [10365], [10365]])

    def test_a_named_one_may_leave(self):
        told = ask((START, 2, 1, 1, 0, 1, 1), (RATIFY, 0, 0), (RATIFY, 1, 0), (NOTICE, 0, 0), (ENDS,), (PARTIES, 1))
        self.assertEqual(told[4:], [[-61], [1, 2]])


class Bound(unittest.TestCase):
    """fo_bound and fo_parties."""

    BEGUN = [(START, 3, 2, 0, 10, 4, 1), (RATIFY, 0, 0), (RATIFY, 2, 5), (RATIFY, 1, 17), (NOTICE, 2, 20)]

    def test_each_day(self):
        wanted = {0: 0, 5: 0, 14: 0, 15: 5, 16: 5, 17: 7, 20: 7, 23: 7, 24: 3, 25: 3, 10001: 3, TOP: 3}
        for day, states in wanted.items():
            told = ask(*self.BEGUN, (PARTIES, day), (BOUND, 0, day), (BOUND, 1, day), (BOUND, 2, day))[5:]
            bound = [states >> i & 1 for i in range(3)]
            self.assertEqual(told, [[sum(bound), states]] + [[one] for one in bound])

    def test_no_such_state(self):
        for day in (0, 17, 10001, TOP):
            self.assertEqual(last(*self.BEGUN, (BOUND, 3, day)), [-2])
            self.assertEqual(last(*self.BEGUN, (BOUND, TOP, day)), [-2])
        self.assertEqual(last((START, 3, 2, 0, 10, 4, 1), (BOUND, 3, 0)), [-2])

    def test_never_in_force(self):
        told = ask((START, 3, 2, 0, 10, 4, 1), (PARTIES, 0), (BOUND, 0, TOP), (RATIFY, 0, 0), (PARTIES, TOP),
                   (BOUND, 0, TOP))
        self.assertEqual(told, [[0], [0, 0], [0], [1], [0, 0], [0]])

    def test_told_by_what_is_done_so_far(self):
        told = ask((START, 1, 1, 0, 0, 4, 1), (BOUND, 0, 50), (RATIFY, 0, 1), (BOUND, 0, 50), (NOTICE, 0, 46),
                   (BOUND, 0, 50), (BOUND, 0, 49))
        self.assertEqual(told, [[0], [0], [1], [1], [50], [0], [1]])


class Ratified(unittest.TestCase):
    """fo_ratified."""

    def test_each_day(self):
        begun = [(START, 4, 4, 0, 0, 3, 0), (RATIFY, 3, 2), (RATIFY, 1, 4), (NOTICE, 3, 6), (RATIFY, 3, 12)]
        wanted = {0: [0, 0], 1: [0, 0], 2: [1, 8], 3: [1, 8], 4: [2, 10], 6: [2, 10], 8: [2, 10], 9: [1, 2],
                  11: [1, 2], 12: [2, 10], 10000: [2, 10], 10001: [2, 10], TOP: [2, 10]}
        for day, told in wanted.items():
            with self.subTest(day=day):
                self.assertEqual(last(*begun, (RATIFIED, day)), told)

    def test_nothing_done(self):
        self.assertEqual(last((START, 10, 1, 0, 0, 1, 0), (RATIFIED, TOP)), [0, 0])

    def test_out_far_behind_the_last_day(self):
        begun = [(START, 1, 1, 0, 0, 365, 0), (RATIFY, 0, 10000), (NOTICE, 0, 10000)]
        self.assertEqual(ask(*begun, (RATIFIED, 10364), (RATIFIED, 10365), (RATIFIED, TOP))[3:],
                         [[1, 1], [0, 0], [0, 0]])


class Lacks(unittest.TestCase):
    """fo_lacks."""

    def test_nothing_done(self):
        self.assertEqual(last((START, 4, 3, 9, 0, 1, 0), (LACKS, 0)), [3, 9])
        self.assertEqual(last((START, 10, 10, 1023, 0, 1, 0), (LACKS, TOP)), [10, 1023])

    def test_each_day(self):
        begun = [(START, 4, 2, 9, 0, 3, 0), (RATIFY, 1, 2), (RATIFY, 3, 4), (RATIFY, 2, 5), (RATIFY, 0, 7),
                 (NOTICE, 3, 8), (NOTICE, 2, 9), (NOTICE, 1, 9)]
        wanted = {0: [2, 9], 1: [2, 9], 2: [1, 9], 4: [0, 1], 5: [0, 1], 7: [0, 0], 10: [0, 0], 11: [0, 8],
                  12: [1, 8], TOP: [1, 8]}
        for day, told in wanted.items():
            with self.subTest(day=day):
                self.assertEqual(last(*begun, (LACKS, day)), told)

    def test_none_named(self):
        self.assertEqual(last((START, 4, 2, 0, 0, 1, 0), (RATIFY, 3, 0), (LACKS, 0)), [1, 0])
