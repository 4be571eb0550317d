"""Lines made by lot, against a second reading of the document that walks through all days one by one."""

import random
import unittest

from lines import NOTICE, RATIFY, ask, drawn_line


class Walked:
    def __init__(self):
        self.terms = None
        self.done = []

    def rows(self):
        """For each day who has ratified, as a list of the state's standing: None out, 'in', or its out day."""
        n, need, named, wait, notice, floor = self.terms
        last = self.done[-1][1] if self.done else 0
        standing = [None] * n
        rows = []
        for day in range(last + wait + notice + 2):
            standing = [None if one == day else one for one in standing]
            for state, when, what in self.done:
                if when == day:
                    standing[state] = 'in' if what == RATIFY else day + notice
            rows.append(list(standing))
        return rows

    def row(self, day):
        rows = self.rows()
        return rows[min(day, len(rows) - 1)]

    def span(self):
        """The day from which it's in force and the day on which it ends, each None if there's none."""
        n, need, named, wait, notice, floor = self.terms
        heads = [[state for state in range(n) if row[state] is not None] for row in self.rows()]
        enough = [day for day, have in enumerate(heads)
                  if len(have) >= need and all(state in have for state in range(n) if named >> state & 1)]
        if not enough:
            return None, None
        begins = enough[0] + wait
        few = [day for day, have in enumerate(heads) if day >= begins and len(have) < floor]
        return begins, few[0] if few else None

    def told(self, call):
        return getattr(self, 'call' + str(call[0]))(*call[1:])

    def call0(self, *terms):
        n, need, named, wait, notice, floor = terms
        fits = n in range(1, 11) and need in range(1, n + 1) and named in range(2 ** n)
        if not (fits and wait in range(366) and notice in range(1, 366) and floor in range(n + 1)):
            return [-22]
        self.terms = terms
        self.done = []
        return [0]

    def refused(self, i, d):
        return [-2] if i not in range(self.terms[0]) else self.late(d)

    def call1(self, i, d):
        if self.refused(i, d):
            return self.refused(i, d)
        standing = self.row(d)[i]
        if standing is not None:
            return [-17] if standing == 'in' else [-16]
        if len(self.done) == 24:
            return [-28]
        self.done.append((i, d, RATIFY))
        return self.call7(d)[:1]

    def call2(self, i, d):
        if self.refused(i, d):
            return self.refused(i, d)
        standing = self.row(d)[i]
        if standing != 'in':
            return [-6] if standing is None else [-17]
        if len(self.done) == 24:
            return [-28]
        self.done.append((i, d, NOTICE))
        return [d + self.terms[4]]

    def call3(self):
        begins, ends = self.span()
        return [-33] if begins is None else [begins]

    def call4(self):
        begins, ends = self.span()
        if begins is None:
            return [-33]
        return [-61] if ends is None else [ends]

    def call5(self, i, d):
        if i >= self.terms[0]:
            return [-2]
        return [self.call6(d)[1] >> i & 1]

    def call6(self, d):
        begins, ends = self.span()
        if begins is None or d < begins or (ends is not None and d >= ends):
            return [0, 0]
        return self.call7(d)

    def call7(self, d):
        have = [state for state, one in enumerate(self.row(d)) if one is not None]
        return [len(have), sum(2 ** state for state in have)]

    def call8(self, d):
        many, states = self.call7(d)
        return [max(0, self.terms[1] - many), self.terms[2] & ~states]

    def bound_by_day(self):
        """For each day the list of those who are bound; from the last day of the list on nothing changes."""
        begins, ends = self.span()
        rows = []
        for day, row in enumerate(self.rows()):
            force = begins is not None and day >= begins and (ends is None or day < ends)
            rows.append([state for state, one in enumerate(row) if one is not None and force])
        return rows

    def call9(self, i):
        if i >= self.terms[0]:
            return [-2]
        days = [day for day, bound in enumerate(self.bound_by_day()) if i in bound]
        return days[:1] or [-33]

    def call10(self, i):
        since = self.call9(i)
        if since[0] < 0:
            return since
        days = [day for day, bound in enumerate(self.bound_by_day()) if day > since[0] and i not in bound]
        return days[:1] or [-61]

    def late(self, d):
        return [-22] if d > 10000 else [-13] if any(when > d for state, when, what in self.done) else None

    def call11(self, s, d):
        states = [state for state in range(32) if s >> state & 1]
        if any(state >= self.terms[0] for state in states):
            return [-22]
        if self.late(d):
            return self.late(d)
        row = self.row(d)
        if any(row[state] not in (None, 'in') for state in states):
            return [-16]
        other = Walked()
        other.terms = self.terms
        other.done = self.done + [(state, d, RATIFY) for state in states if row[state] is None]
        return other.call3()

    def call12(self, d):
        if self.late(d):
            return self.late(d)
        if self.span()[0] is not None:
            return [-17]
        n, need, named = self.terms[:3]
        have = self.call7(d)[1]
        tries = [more for more in range(2 ** n)
                 if more & have == 0 and (more | have).bit_count() >= need and (more | have) & named == named]
        best = min(tries, key=lambda more: (more.bit_count(), more))
        return [best.bit_count(), best]

    def call13(self, i):
        if i >= self.terms[0]:
            return [-2]
        rows = self.bound_by_day()
        return [sum(i in rows[min(day, len(rows) - 1)] for day in range(10001))]

    def call14(self):
        if not self.done:
            return [-33]
        days = [when for state, when, what in self.done]
        days += [when + self.terms[4] for state, when, what in self.done if what == NOTICE]
        days += [day for day in self.span() if day is not None]
        rows = self.bound_by_day()
        day = max(sorted(days), key=lambda one: len(rows[one]))
        return [len(rows[day]), day]

    def call15(self, k):
        if k >= len(self.done):
            return [-2]
        state, when, what = self.done[k]
        return [1 if what == RATIFY else 0, state, when]

    def call16(self):
        if not self.done:
            return [-2]
        self.done = self.done[:-1]
        return [len(self.done)]

    def call17(self):
        return [len(self.done), *self.terms, self.done[-1][1] if self.done else 0]


class DayByDay(unittest.TestCase):
    def check(self, calls):
        walked = Walked()
        for call, told in zip(calls, ask(*calls), strict=True):
            self.assertEqual(told, walked.told(call), (call, calls))

    def test_short_spans(self):
        lot = random.Random(1)
        for _ in range(600):
            self.check(drawn_line(lot, lot.choice([1, 2, 4, 8]), 60))

    def test_many_deeds(self):
        lot = random.Random(3)
        for _ in range(40):
            self.check(drawn_line(lot, lot.choice([1, 2]), 250))

    def test_long_spans(self):
        lot = random.Random(2)
        for _ in range(10):
            self.check(drawn_line(lot, 365, 60))

    def test_about_the_last_day(self):
        lot = random.Random(4)
        for _ in range(8):
            self.check(drawn_line(lot, lot.choice([4, 20]), 40, 9970))
