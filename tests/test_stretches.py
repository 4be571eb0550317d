"""Point 3: fo_since, fo_until, fo_days, fo_most."""

import unittest

from lines import BACK, DAY, DAYS, ENDS, MOST, NOTICE, RATIFY, SINCE, START, TOP, UNTIL, after, last, looks

# In force from day 15 on, nobody leaves but state 2, which is out from day 24 on.
PLAIN = [(START, 4, 2, 0, 10, 4, 1), (RATIFY, 0, 0), (RATIFY, 2, 5), (RATIFY, 1, 17), (NOTICE, 2, 20)]

# In force from day 1 on; state 1 is bound on the days 1 to 7, and again from day 20 on.
ANEW = [(START, 2, 2, 0, 0, 5, 1), (RATIFY, 0, 0), (RATIFY, 1, 1), (NOTICE, 1, 3), (RATIFY, 1, 20)]

# In force on the days 3 to 9; state 1 would be out on day 12, state 2 ratifies behind the end.
ENDED = [(START, 3, 2, 0, 3, 5, 2), (RATIFY, 0, 0), (RATIFY, 1, 0), (NOTICE, 0, 5), (NOTICE, 1, 7), (RATIFY, 2, 11)]

# It ends on the very day from which it'd be in force.
NEVER = [(START, 2, 2, 0, 20, 20, 2), (RATIFY, 0, 0), (RATIFY, 1, 0), (NOTICE, 1, 0)]


def stretch(begun, i):
    """What fo_since, fo_until and fo_days tell of a state."""
    return [told[0] for told in after(begun, (SINCE, i), (UNTIL, i), (DAYS, i))]


class Stretch(unittest.TestCase):
    """fo_since, fo_until and fo_days."""

    def test_from_the_day_of_force(self):
        self.assertEqual(stretch(PLAIN, 0), [15, -61, 10001 - 15])

    def test_from_the_day_it_ratified(self):
        self.assertEqual(stretch(PLAIN, 1), [17, -61, 10001 - 17])

    def test_till_the_day_it_is_out(self):
        self.assertEqual(stretch(PLAIN, 2), [15, 24, 9])

    def test_never_ratified(self):
        self.assertEqual(stretch(PLAIN, 3), [-33, -33, 0])

    def test_no_such_state(self):
        for begun in (PLAIN, ENDED, NEVER, PLAIN[:1]):
            for i in (begun[0][1], 10, TOP):
                self.assertEqual(stretch(begun, i), [-2, -2, -2])

    def test_last_of_ten(self):
        begun = [(START, 10, 1, 0, 0, 1, 0), (RATIFY, 9, 4)]
        self.assertEqual(stretch(begun, 9), [4, -61, 9997])
        self.assertEqual(stretch(begun, 10), [-2, -2, -2])

    def test_nothing_done(self):
        self.assertEqual(stretch(PLAIN[:1], 0), [-33, -33, 0])

    def test_never_enough(self):
        self.assertEqual(stretch(PLAIN[:2], 0), [-33, -33, 0])

    def test_bound_out_and_bound_again(self):
        self.assertEqual(stretch(ANEW, 1), [1, 8, 7 + 10001 - 20])
        self.assertEqual(stretch(ANEW, 0), [1, -61, 10000])

    def test_out_twice(self):
        begun = ANEW + [(NOTICE, 1, 30)]
        self.assertEqual(stretch(begun, 1), [1, 8, 7 + 15])
        self.assertEqual(stretch(begun[:-2], 1), [1, 8, 7])

    def test_ratified_anew_on_the_day_it_is_out(self):
        begun = ANEW[:-1] + [(RATIFY, 1, 8)]
        self.assertEqual(stretch(begun, 1), [1, -61, 10000])
        self.assertEqual(stretch(begun + [(NOTICE, 1, 9)], 1), [1, 14, 13])

    def test_on_notice_it_is_bound(self):
        self.assertEqual(stretch([(START, 1, 1, 0, 0, 1, 0), (RATIFY, 0, 4), (NOTICE, 0, 4)], 0), [4, 5, 1])

    def test_till_the_treaty_ends(self):
        self.assertEqual(stretch(ENDED, 0), [3, 10, 7])
        self.assertEqual(stretch(ENDED, 1), [3, 10, 7])

    def test_behind_the_end_none_is_bound(self):
        self.assertEqual(stretch(ENDED, 2), [-33, -33, 0])

    def test_from_the_day_of_force_till_the_end(self):
        told = after(ENDED, (DAY,), (ENDS,), (SINCE, 0), (UNTIL, 0))
        self.assertEqual(told, [[3], [10], [3], [10]])

    def test_in_force_on_no_day(self):
        self.assertEqual(after(NEVER, (DAY,), (ENDS,)), [[20], [20]])
        for i in (0, 1):
            self.assertEqual(stretch(NEVER, i), [-33, -33, 0])

    def test_out_ahead_of_force(self):
        begun = [(START, 2, 2, 0, 20, 3, 1), (RATIFY, 0, 0), (RATIFY, 1, 0), (NOTICE, 1, 1)]
        self.assertEqual(stretch(begun, 1), [-33, -33, 0])
        self.assertEqual(stretch(begun, 0), [20, -61, 9981])
        self.assertEqual(stretch(begun + [(RATIFY, 1, 9)], 1), [20, -61, 9981])
        self.assertEqual(stretch(begun + [(RATIFY, 1, 30)], 1), [30, -61, 9971])

    def test_out_on_the_day_of_force(self):
        begun = [(START, 2, 2, 0, 20, 20, 1), (RATIFY, 0, 0), (RATIFY, 1, 0), (NOTICE, 1, 0)]
        self.assertEqual(stretch(begun, 1), [-33, -33, 0])
        self.assertEqual(stretch(begun[:-1] + [(NOTICE, 1, 1)], 1), [20, 21, 1])

    def test_all_days(self):
        self.assertEqual(stretch([(START, 1, 1, 1, 0, 1, 1), (RATIFY, 0, 0)], 0), [0, -61, 10001])

    def test_force_about_the_last_day(self):
        for wait, many in ((99, 2), (100, 1), (101, 0), (365, 0)):
            begun = [(START, 1, 1, 0, wait, 1, 0), (RATIFY, 0, 9900)]
            self.assertEqual(stretch(begun, 0), [9900 + wait, -61, many])

    def test_ratified_on_the_last_day(self):
        self.assertEqual(stretch([(START, 1, 1, 0, 0, 1, 0), (RATIFY, 0, 10000)], 0), [10000, -61, 1])

    def test_end_about_the_last_day(self):
        for notice, many in ((99, 99), (100, 100), (101, 101), (102, 101), (365, 101)):
            begun = [(START, 2, 1, 0, 0, notice, 1), (RATIFY, 0, 9900), (NOTICE, 0, 9900)]
            self.assertEqual(stretch(begun, 0), [9900, 9900 + notice, many])
            self.assertEqual(last(*begun, (ENDS,)), [9900 + notice])

    def test_force_and_end_behind_the_last_day(self):
        begun = [(START, 1, 1, 1, 200, 365, 1), (RATIFY, 0, 9900), (NOTICE, 0, 9990)]
        self.assertEqual(stretch(begun, 0), [10100, 10355, 0])

    def test_out_behind_the_last_day_while_in_force(self):
        begun = [(START, 2, 1, 0, 0, 365, 1), (RATIFY, 0, 9990), (RATIFY, 1, 9995), (NOTICE, 1, 9999)]
        self.assertEqual(stretch(begun, 1), [9995, 10364, 6])

    def test_told_by_what_is_done_so_far(self):
        told = after(PLAIN[:3], (UNTIL, 2), (NOTICE, 2, 20), (UNTIL, 2), (DAYS, 2), (BACK,), (UNTIL, 2), (DAYS, 2))
        self.assertEqual(told, [[-61], [24], [24], [9], [2], [-61], [9986]])


class Most(unittest.TestCase):
    """fo_most."""

    def test_nothing_done(self):
        self.assertEqual(last(PLAIN[0], (MOST,)), [-33])
        self.assertEqual(last(PLAIN[0], (RATIFY, 0, 5), (BACK,), (MOST,)), [-33])

    def test_on_the_day_one_ratifies(self):
        self.assertEqual(last(*PLAIN, (MOST,)), [3, 17])

    def test_on_the_day_of_force(self):
        self.assertEqual(last(*PLAIN[:3], (MOST,)), [2, 15])
        self.assertEqual(last(*ENDED, (MOST,)), [2, 3])

    def test_first_of_several_days(self):
        self.assertEqual(last(*ANEW, (MOST,)), [2, 1])
        self.assertEqual(last(*ANEW, (NOTICE, 0, 30), (RATIFY, 0, 40), (MOST,)), [2, 1])

    def test_a_later_day_with_more(self):
        begun = [(START, 3, 1, 0, 0, 5, 1), (RATIFY, 0, 0), (NOTICE, 0, 1), (RATIFY, 1, 6), (RATIFY, 2, 9)]
        self.assertEqual(last(*begun, (MOST,)), [2, 9])
        self.assertEqual(last(*begun, (RATIFY, 0, 12), (MOST,)), [3, 12])

    def test_nobody_bound_on_any_day(self):
        self.assertEqual(last(PLAIN[0], (RATIFY, 0, 7), (MOST,)), [0, 7])
        self.assertEqual(last(PLAIN[0], (RATIFY, 0, 0), (NOTICE, 0, 3), (MOST,)), [0, 0])
        self.assertEqual(last(*NEVER, (MOST,)), [0, 0])

    def test_in_force_with_nobody(self):
        begun = [(START, 1, 1, 0, 9, 3, 0), (RATIFY, 0, 4), (NOTICE, 0, 5)]
        self.assertEqual(after(begun, (DAY,), (ENDS,), (MOST,)), [[13], [-61], [0, 4]])

    def test_not_those_who_ratify_behind_the_end(self):
        begun = ENDED + [(RATIFY, 0, 13), (RATIFY, 1, 13)]
        self.assertEqual(last(*begun, (MOST,)), [2, 3])

    def test_not_those_who_are_out_ahead_of_force(self):
        begun = [(START, 3, 3, 0, 20, 3, 1), (RATIFY, 0, 0), (RATIFY, 1, 0), (RATIFY, 2, 0), (NOTICE, 1, 1)]
        self.assertEqual(last(*begun, (MOST,)), [2, 20])

    def test_behind_the_last_day(self):
        self.assertEqual(last((START, 1, 1, 0, 365, 1, 0), (RATIFY, 0, 10000), (MOST,)), [1, 10365])

    def test_all_ten(self):
        begun = [(START, 10, 1, 0, 0, 1, 0)] + [(RATIFY, i, i) for i in range(10)]
        self.assertEqual(last(*begun, (MOST,)), [10, 9])


class Unchanged(unittest.TestCase):
    def test_asking_changes_nothing(self):
        asked = [(SINCE, 0), (SINCE, 9), (UNTIL, 0), (UNTIL, 9), (DAYS, 0), (DAYS, 9), (MOST,)]
        for begun in (PLAIN[:1], PLAIN, ANEW, ENDED, NEVER):
            shown = looks(2, [0, 5, 10, 20, 24, 10001])
            self.assertEqual(after(begun + asked, *shown), after(begun, *shown))
