"""What holds over the whole program, by lines of many calls drawn by lot."""

import itertools
import random
import unittest

from lines import (BACK, BOUND, DAY, DAYS, ENDS, FEWEST, NOTICE, PARTIES, RATIFIED, RATIFY, SINCE, START, STATE, UNTIL,
                   WOULD, after, ask, drawn_line, drawn_start, looks)


def drawn_deeds(lot, most, many, first=0):
    """A start and at most so many deeds, each of which is done: (how many states, the calls)."""
    n = lot.randint(1, lot.choice([2, 4, 10]))
    calls = [drawn_start(lot, n, most)]
    day = first
    while len(calls) <= many and day <= 10000:
        day += lot.choice([0, 0, 1, 1, lot.randint(0, most)])
        call = (lot.choice([RATIFY, RATIFY, NOTICE]), lot.randrange(n), day)
        if ask(*calls, call)[-1][0] > 0:
            calls.append(call)
    return n, calls


def spread(calls):
    """Days that tell all of a line of few short spans: some behind its last change."""
    return range(calls[-1][2] + calls[0][4] + calls[0][5] + 3)


class Holds(unittest.TestCase):
    def lines(self, seed, many=150):
        lot = random.Random(seed)
        for _ in range(many):
            n, calls = drawn_deeds(lot, lot.choice([1, 2, 5, 9]), lot.randint(1, 24))
            yield lot, n, calls

    def test_no_sooner_no_later(self):
        known = 0
        for lot, n, calls in self.lines(11):
            start, n, need, named, wait, notice, floor = calls[0]
            rows = after(calls, *[(RATIFIED, d) for d in spread(calls)])
            enough = [d for d, told in enumerate(rows) if told[0] >= need and told[1] & named == named]
            wanted = enough[0] + wait if enough else -33
            self.assertEqual(after(calls, (DAY,)), [[wanted]])
            known += bool(enough)
        self.assertGreater(known, 50)

    def test_in_force_on_just_these_days(self):
        seen = 0
        for lot, n, calls in self.lines(12):
            (begins,), (ends,) = after(calls, (DAY,), (ENDS,))
            for d in spread(calls):
                force = 0 <= begins <= d and (ends < 0 or d < ends)
                bound, ratified = after(calls, (PARTIES, d), (RATIFIED, d))
                self.assertEqual(bound, ratified if force else [0, 0])
                seen += force
        self.assertGreater(seen, 500)

    def test_no_fewer_bound_than_the_floor(self):
        for lot, n, calls in self.lines(13):
            (begins,), (ends,) = after(calls, (DAY,), (ENDS,))
            if begins < 0:
                continue
            last = ends if ends >= 0 else len(spread(calls))
            rows = after(calls, *[(PARTIES, d) for d in range(begins, last)])
            self.assertTrue(all(told[0] >= calls[0][6] for told in rows))

    def test_once_ended_never_again(self):
        ended = 0
        for lot, n, calls in self.lines(14):
            for many in range(2, len(calls) + 1):
                (ends,), (begins,) = after(calls[:many], (ENDS,), (DAY,))
                # A day that is still to come can be saved by who ratifies by then: only one that is past stands.
                if 0 <= ends < calls[many - 1][2]:
                    ended += 1
                    days = range(ends, len(spread(calls)))
                    self.assertEqual(after(calls, (ENDS,), *[(PARTIES, d) for d in days]),
                                     [[ends]] + [[0, 0] for d in days])
                    break
        self.assertGreater(ended, 20)

    def test_what_is_once_known_of_the_day_does_not_change(self):
        for lot, n, calls in self.lines(15):
            told = [ask(*calls[:many], (DAY,))[-1] for many in range(1, len(calls) + 1)]
            known = [one for one in told if one != [-33]]
            self.assertEqual(told, [[-33]] * (len(told) - len(known)) + known[:1] * len(known))

    def test_what_would_be_comes_to_be(self):
        came = 0
        for lot, n, calls in self.lines(16, 100):
            begun = calls[:lot.randint(1, min(23, len(calls)))]
            day = max([0] + [call[2] for call in begun[1:]]) + lot.randint(0, 5)
            for i in range(n):
                would, ratify, told = after(begun, (WOULD, 2 ** i, day), (RATIFY, i, day), (DAY,))
                if would == [-16]:
                    self.assertEqual(ratify, [-16])
                else:
                    self.assertEqual(would, told)
                    came += would != [-33]
        self.assertGreater(came, 50)

    def test_what_would_be_of_several_comes_to_be(self):
        for lot, n, calls in self.lines(17):
            begun = calls[:lot.randint(1, min(14, len(calls)))]
            day = max([0] + [call[2] for call in begun[1:]]) + lot.randint(0, 5)
            s = lot.randrange(2 ** n)
            deeds = [(RATIFY, i, day) for i in range(n) if s >> i & 1]
            told = after(begun, (WOULD, s, day), *deeds, (DAY,))
            if [-16] in told[1:-1]:
                self.assertEqual(told[0], [-16])
            else:
                self.assertEqual(told[0], told[-1])

    def test_by_no_fewer(self):
        asked = 0
        for lot, n, calls in self.lines(18):
            begun = calls[:lot.randint(1, min(8, len(calls)))]
            day = max([0] + [call[2] for call in begun[1:]]) + lot.randint(0, 5)
            told, (count, have) = after(begun, (FEWEST, day), (RATIFIED, day))
            if told == [-17]:
                self.assertNotEqual(after(begun, (DAY,)), [[-33]])
                continue
            asked += 1
            free = [2 ** i for i in range(n) if not have >> i & 1]
            fewer = [sum(some) for many in range(told[0]) for some in itertools.combinations(free, many)]
            like = sorted(sum(some) for some in itertools.combinations(free, told[0]))
            fits = after(begun, *[(WOULD, s, day) for s in like])
            self.assertEqual([told[1]], [s for s, one in zip(like, fits) if one != [-33]][:1])
            self.assertTrue(all(one == [-33] for one in after(begun, *[(WOULD, s, day) for s in fewer])))
        self.assertGreater(asked, 50)

    def test_first_day_last_and_how_many(self):
        for lot, n, calls in self.lines(19):
            days = spread(calls)
            for i in range(n):
                bound = [told[0] for told in after(calls, *[(BOUND, i, d) for d in days])]
                since = bound.index(1) if 1 in bound else -33
                until = -33
                if since >= 0:
                    until = bound.index(0, since) if 0 in bound[since:] else -61
                many = sum(bound) + bound[-1] * (10001 - len(days))
                self.assertEqual(after(calls, (SINCE, i), (UNTIL, i), (DAYS, i)), [[since], [until], [many]])

    def test_how_many_about_the_last_day(self):
        lot = random.Random(20)
        for _ in range(40):
            n, calls = drawn_deeds(lot, 9, lot.randint(1, 8), 9960)
            for i in range(n):
                bound = after(calls, *[(BOUND, i, d) for d in range(9960, 10001)])
                self.assertEqual(after(calls, (DAYS, i)), [[sum(told[0] for told in bound)]])

    def test_taken_back_all_is_as_it_was(self):
        for lot, n, calls in self.lines(21, 40):
            many = lot.randint(1, len(calls))
            back = [(BACK,)] * (len(calls) - many)
            shown = looks(n, sorted(lot.sample(spread(calls), 8)) if len(spread(calls)) > 8 else spread(calls))
            told = after(calls, *back, *shown, *calls[many:], *shown)
            self.assertEqual(told[:len(back)], [[len(calls) - 2 - k] for k in range(len(back))])
            self.assertEqual(told[len(back):len(back) + len(shown)], after(calls[:many], *shown))
            self.assertEqual(told[-len(shown):], after(calls, *shown))


class Lines(unittest.TestCase):
    """Lines of all 18 calls."""

    def lines(self, seed):
        lot = random.Random(seed)
        for _ in range(150):
            yield drawn_line(lot, lot.choice([1, 2, 8, 40]), 100)

    def test_refused_calls_leave_all_as_it_was(self):
        for calls in self.lines(31):
            told = ask(*calls)
            kept = [(call, one) for call, one in zip(calls, told) if one[0] >= 0]
            self.assertEqual(ask(*[call for call, one in kept]), [one for call, one in kept])

    def test_calls_that_ask_leave_all_as_it_was(self):
        for calls in self.lines(32):
            told = ask(*calls)
            kept = [(call, one) for call, one in zip(calls, told) if call[0] in (START, RATIFY, NOTICE, BACK)]
            self.assertEqual(ask(*[call for call, one in kept]), [one for call, one in kept])

    def test_as_many_numbers_as_told(self):
        wanted = [1, 1, 1, 1, 1, 1, 2, 2, 2, 1, 1, 1, 2, 1, 2, 3, 1, 8]
        for calls in self.lines(33):
            told = ask(*calls)
            self.assertEqual(len(told), len(calls))
            for call, one in zip(calls, told):
                self.assertEqual(len(one), 1 if one[0] < 0 else wanted[call[0]])
                self.assertTrue(all(number >= 0 for number in one[1:]))

    def test_at_most_twenty_four_are_done(self):
        for calls in self.lines(34):
            told = ask(*[one for call in calls for one in (call, (STATE,))])[1::2]
            self.assertTrue(all(0 <= one[0] <= 24 for one in told))
