"""Point 2: fo_ratify and fo_notice."""

import unittest

from lines import NOTICE, RATIFIED, RATIFY, START, TOP, ask, last, looks, twenty_four

TERMS = (START, 3, 2, 0, 5, 10, 1)


class Ratify(unittest.TestCase):
    def test_counts_those_who_have(self):
        told = ask(TERMS, (RATIFY, 1, 0), (RATIFY, 0, 3), (RATIFY, 2, 9))
        self.assertEqual(told, [[0], [1], [2], [3]])

    def test_counts_on_that_day(self):
        told = ask(TERMS, (RATIFY, 0, 0), (NOTICE, 0, 2), (RATIFY, 1, 11), (RATIFY, 2, 12))
        self.assertEqual(told, [[0], [1], [12], [2], [2]])

    def test_several_on_one_day(self):
        told = ask(TERMS, (RATIFY, 0, 7), (RATIFY, 1, 7), (RATIFY, 2, 7), (RATIFIED, 6), (RATIFIED, 7))
        self.assertEqual(told, [[0], [1], [2], [3], [0, 0], [3, 7]])

    def test_first_and_last_day(self):
        self.assertEqual(last(TERMS, (RATIFY, 0, 0)), [1])
        self.assertEqual(last(TERMS, (RATIFY, 0, 10000)), [1])

    def test_first_and_last_state(self):
        self.assertEqual(last((START, 1, 1, 1, 0, 1, 1), (RATIFY, 0, 0)), [1])
        self.assertEqual(last((START, 10, 1, 0, 0, 1, 1), (RATIFY, 9, 0), (RATIFIED, 0)), [1, 512])

    def test_no_such_state(self):
        self.assertEqual(last(TERMS, (RATIFY, 3, 0)), [-2])
        self.assertEqual(last(TERMS, (RATIFY, TOP, 0)), [-2])
        self.assertEqual(last((START, 1, 1, 1, 0, 1, 1), (RATIFY, 1, 0)), [-2])
        self.assertEqual(last((START, 10, 1, 0, 0, 1, 1), (RATIFY, 10, 0)), [-2])

    def test_day_above_the_last(self):
        self.assertEqual(last(TERMS, (RATIFY, 0, 10001)), [-22])
        self.assertEqual(last(TERMS, (RATIFY, 0, TOP)), [-22])

    def test_something_done_later(self):
        self.assertEqual(last(TERMS, (RATIFY, 0, 5), (RATIFY, 1, 4)), [-13])
        self.assertEqual(last(TERMS, (RATIFY, 0, 5), (NOTICE, 0, 8), (RATIFY, 1, 7)), [-13])

    def test_gave_notice_and_is_not_out(self):
        for day in (3, 4, 12):
            with self.subTest(day=day):
                self.assertEqual(last(TERMS, (RATIFY, 0, 0), (NOTICE, 0, 3), (RATIFY, 0, day)), [-16])

    def test_again_from_the_day_it_is_out(self):
        for day in (13, 14, 10000):
            with self.subTest(day=day):
                self.assertEqual(last(TERMS, (RATIFY, 0, 0), (NOTICE, 0, 3), (RATIFY, 0, day)), [1])

    def test_has_ratified(self):
        self.assertEqual(last(TERMS, (RATIFY, 0, 0), (RATIFY, 0, 0)), [-17])
        self.assertEqual(last(TERMS, (RATIFY, 0, 0), (RATIFY, 0, 9999)), [-17])

    def test_has_ratified_again(self):
        told = last(TERMS, (RATIFY, 0, 0), (NOTICE, 0, 0), (RATIFY, 0, 10), (RATIFY, 0, 10))
        self.assertEqual(told, [-17])

    def test_twenty_four_done(self):
        self.assertEqual(ask(*twenty_four(2)), [[0]] + [[1 + k * day] for day in range(12) for k in (0, 1)])
        self.assertEqual(last(*twenty_four(2), (RATIFY, 1, 11)), [-28])
        self.assertEqual(last(*twenty_four(2)[:-1], (RATIFY, 1, 11)), [2])
        self.assertEqual(last(*twenty_four(2)[:-1], (RATIFY, 1, 11), (NOTICE, 0, 11)), [-28])


class Notice(unittest.TestCase):
    def test_tells_the_day_it_is_out(self):
        told = ask(TERMS, (RATIFY, 0, 3), (RATIFY, 1, 3), (NOTICE, 0, 3), (NOTICE, 1, 7))
        self.assertEqual(told, [[0], [1], [2], [13], [17]])

    def test_least_and_greatest_notice(self):
        for notice in (1, 365):
            terms = (START, 1, 1, 0, 0, notice, 0)
            told = ask(terms, (RATIFY, 0, 10000), (NOTICE, 0, 10000), (RATIFIED, 9999 + notice),
                       (RATIFIED, 10000 + notice))
            self.assertEqual(told, [[0], [1], [10000 + notice], [1, 1], [0, 0]])

    def test_no_such_state(self):
        self.assertEqual(last(TERMS, (NOTICE, 3, 0)), [-2])
        self.assertEqual(last(TERMS, (NOTICE, TOP, 0)), [-2])

    def test_day_above_the_last(self):
        self.assertEqual(last(TERMS, (RATIFY, 0, 0), (NOTICE, 0, 10001)), [-22])
        self.assertEqual(last(TERMS, (RATIFY, 0, 0), (NOTICE, 0, TOP)), [-22])

    def test_something_done_later(self):
        self.assertEqual(last(TERMS, (RATIFY, 0, 0), (RATIFY, 1, 5), (NOTICE, 0, 4)), [-13])

    def test_has_not_ratified(self):
        self.assertEqual(last(TERMS, (NOTICE, 0, 0)), [-6])
        self.assertEqual(last(TERMS, (RATIFY, 1, 0), (NOTICE, 0, 0)), [-6])

    def test_is_out(self):
        self.assertEqual(last(TERMS, (RATIFY, 0, 0), (NOTICE, 0, 3), (NOTICE, 0, 13)), [-6])
        self.assertEqual(last(TERMS, (RATIFY, 0, 0), (NOTICE, 0, 3), (NOTICE, 0, 14)), [-6])

    def test_gave_notice_and_is_not_out(self):
        for day in (3, 12):
            with self.subTest(day=day):
                self.assertEqual(last(TERMS, (RATIFY, 0, 0), (NOTICE, 0, 3), (NOTICE, 0, day)), [-17])

    def test_again_behind_a_new_ratification(self):
        told = ask(TERMS, (RATIFY, 0, 0), (NOTICE, 0, 3), (RATIFY, 0, 13), (NOTICE, 0, 13), (NOTICE, 0, 22),
                   (RATIFY, 0, 22), (RATIFY, 0, 23))
        self.assertEqual(told, [[0], [1], [13], [1], [23], [-17], [-16], [1]])

    def test_twenty_four_done(self):
        begun = twenty_four(2)[:-2]
        self.assertEqual(last(*begun, (RATIFY, 0, 11), (RATIFY, 1, 11), (NOTICE, 1, 11)), [-28])
        self.assertEqual(last(*begun, (RATIFY, 1, 11), (NOTICE, 1, 11)), [12])


class Order(unittest.TestCase):
    """Of refusals that could be due the one that's told first is answered."""

    def test_state_ahead_of_all(self):
        for call in (RATIFY, NOTICE):
            for begun in ([TERMS], [TERMS, (RATIFY, 0, 5)], twenty_four(3)):
                self.assertEqual(last(*begun, (call, 3, 10001)), [-2])
                self.assertEqual(last(*begun, (call, 3, 0)), [-2])

    def test_day_ahead_of_the_rest(self):
        for call in (RATIFY, NOTICE):
            for i in (0, 1):
                self.assertEqual(last(*twenty_four(3), (call, i, 10001)), [-22])

    def test_later_ahead_of_the_rest(self):
        begun = [TERMS, (RATIFY, 0, 5), (RATIFY, 1, 5), (NOTICE, 1, 6)]
        for call in (RATIFY, NOTICE):
            for i in (0, 1, 2):
                self.assertEqual(last(*begun, (call, i, 5)), [-13])
                self.assertEqual(last(*twenty_four(3), (call, i, 10)), [-13])

    def test_notice_running_ahead_of_ratified_and_full(self):
        self.assertEqual(last(*twenty_four(3), (RATIFY, 0, 11)), [-16])

    def test_ratified_ahead_of_full(self):
        self.assertEqual(last(*twenty_four(3)[:-1], (RATIFY, 1, 11), (RATIFY, 1, 11)), [-17])

    def test_not_ratified_ahead_of_full(self):
        self.assertEqual(last(*twenty_four(3), (NOTICE, 1, 11)), [-6])
        self.assertEqual(last(*twenty_four(3), (NOTICE, 0, 12)), [-6])

    def test_second_notice_ahead_of_full(self):
        self.assertEqual(last(*twenty_four(3), (NOTICE, 0, 11)), [-17])


class Unchanged(unittest.TestCase):
    """A refusal leaves all as it was."""

    def compare(self, begun, refused, behind, n, days):
        shown = looks(n, days)
        plain = ask(*begun, *shown, *behind, *shown)
        told = ask(*begun, *[call for call, number in refused], *shown, *behind, *shown)
        at = len(begun)
        self.assertEqual(told[at:at + len(refused)], [[number] for call, number in refused])
        self.assertEqual(told[:at] + told[at + len(refused):], plain)

    def test_each_refusal(self):
        begun = [TERMS, (RATIFY, 0, 1), (RATIFY, 1, 4), (NOTICE, 1, 6)]
        refused = [((RATIFY, 3, 7), -2), ((RATIFY, 2, 10001), -22), ((RATIFY, 2, 5), -13), ((RATIFY, 1, 7), -16),
                   ((RATIFY, 0, 7), -17), ((NOTICE, 3, 7), -2), ((NOTICE, 0, 10001), -22), ((NOTICE, 0, 5), -13),
                   ((NOTICE, 2, 7), -6), ((NOTICE, 1, 7), -17)]
        behind = [(NOTICE, 0, 6), (RATIFY, 2, 6)]
        self.compare(begun, refused, behind, 3, [0, 1, 4, 6, 7, 15, 16, 17, 10001])

    def test_when_full(self):
        refused = [((RATIFY, 1, 12), -28), ((RATIFY, 0, 12), -28)]
        self.compare(twenty_four(2), refused, [(RATIFY, 0, 10), (RATIFY, 0, 11)], 2, [10, 11, 12, 13])

    def test_notice_when_full(self):
        begun = twenty_four(2)[:-1] + [(RATIFY, 1, 11)]
        self.compare(begun, [((NOTICE, 0, 12), -28), ((NOTICE, 1, 11), -28)], [(NOTICE, 0, 11)], 2, [11, 12, 13, 14])
