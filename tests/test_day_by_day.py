"""Lines made by lot, against a second reading of the document that walks through all days one by one."""

import random
import unittest

from lines import BOUND, DAY, ENDS, LACKS, NOTICE, PARTIES, RATIFIED, RATIFY, START, TOP, ask


class Walked:
    def __init__(self):
        self.terms = None
        self.done = []

    def rows(self):
        """For each day who has ratified, as a list of the state's standing: None out, 'in', or its out day."""
        n, need, named, wait, notice, floor = self.terms
        last = self.done[-1][1] if self.done else 0
        standing = [None] * n
        rows = []
        for day in range(last + wait + notice + 2):
            standing = [None if one == day else one for one in standing]
            for state, when, what in self.done:
                if when == day:
                    standing[state] = 'in' if what == RATIFY else day + notice
            rows.append(list(standing))
        return rows

    def row(self, day):
        rows = self.rows()
        return rows[min(day, len(rows) - 1)]

    def span(self):
        """The day from which it's in force and the day on which it ends, each None if there's none."""
        n, need, named, wait, notice, floor = self.terms
        heads = [[state for state in range(n) if row[state] is not None] for row in self.rows()]
        enough = [day for day, have in enumerate(heads)
                  if len(have) >= need and all(state in have for state in range(n) if named >> state & 1)]
        if not enough:
            return None, None
        begins = enough[0] + wait
        few = [day for day, have in enumerate(heads) if day >= begins and len(have) < floor]
        return begins, few[0] if few else None

    def told(self, call):
        return getattr(self, 'call' + str(call[0]))(*call[1:])

    def call0(self, *terms):
        n, need, named, wait, notice, floor = terms
        fits = n in range(1, 11) and need in range(1, n + 1) and named in range(2 ** n)
        if not (fits and wait in range(366) and notice in range(1, 366) and floor in range(n + 1)):
            return [-22]
        self.terms = terms
        self.done = []
        return [0]

    def refused(self, i, d):
        if i not in range(self.terms[0]):
            return [-2]
        if d > 10000:
            return [-22]
        if any(when > d for state, when, what in self.done):
            return [-13]
        return None

    def call1(self, i, d):
        if self.refused(i, d):
            return self.refused(i, d)
        standing = self.row(d)[i]
        if standing is not None:
            return [-17] if standing == 'in' else [-16]
        if len(self.done) == 24:
            return [-28]
        self.done.append((i, d, RATIFY))
        return self.call7(d)[:1]

    def call2(self, i, d):
        if self.refused(i, d):
            return self.refused(i, d)
        standing = self.row(d)[i]
        if standing != 'in':
            return [-6] if standing is None else [-17]
        if len(self.done) == 24:
            return [-28]
        self.done.append((i, d, NOTICE))
        return [d + self.terms[4]]

    def call3(self):
        begins, ends = self.span()
        return [-33] if begins is None else [begins]

    def call4(self):
        begins, ends = self.span()
        if begins is None:
            return [-33]
        return [-61] if ends is None else [ends]

    def call5(self, i, d):
        if i >= self.terms[0]:
            return [-2]
        return [self.call6(d)[1] >> i & 1]

    def call6(self, d):
        begins, ends = self.span()
        if begins is None or d < begins or (ends is not None and d >= ends):
            return [0, 0]
        return self.call7(d)

    def call7(self, d):
        have = [state for state, one in enumerate(self.row(d)) if one is not None]
        return [len(have), sum(2 ** state for state in have)]

    def call8(self, d):
        many, states = self.call7(d)
        return [max(0, self.terms[1] - many), self.terms[2] & ~states]


def drawn_start(lot, n, most):
    return (START, n, lot.randint(1, n), lot.randrange(2 ** n) & lot.randrange(2 ** n), lot.randint(0, most),
            lot.randint(1, most), lot.randint(0, n))


def drawn_wrong_start(lot, n, most):
    terms = list(drawn_start(lot, n, most))
    terms[lot.randint(1, 6)] = lot.choice([1024, TOP])
    return tuple(terms)


def drawn_line(lot, most, length):
    """A line of calls with days that mostly go on slowly, waits and notices of at most so many days."""
    n = lot.randint(1, lot.choice([2, 4, 10]))
    calls = [drawn_start(lot, n, most)]
    day = 0
    while len(calls) < length:
        i = min(lot.randrange(n + 1), lot.randrange(n + 1))
        day += lot.choice([0, 0, 0, 1, 1, 2, lot.randint(0, most)])
        near = max(0, day + lot.randint(-2 * most, 2 * most))
        seen = lot.choice([near, near, near, day, day, 10001, TOP])
        kind = lot.choice([1, 1, 1, 1, 2, 2, 2, 3, 4, 4, 5, 5, 6, 6, 7, 8])
        if lot.randrange(100) == 0:
            calls.append(lot.choice([drawn_start, drawn_wrong_start])(lot, n, most))
        elif kind in (RATIFY, NOTICE):
            late = lot.choice([day] * 20 + [max(0, day - 1), 10001])
            calls.append((kind, i, late))
        elif kind in (DAY, ENDS):
            calls.append((kind,))
        elif kind == BOUND:
            calls.append((kind, i, seen))
        else:
            assert kind in (PARTIES, RATIFIED, LACKS)
            calls.append((kind, seen))
    return calls


class DayByDay(unittest.TestCase):
    def check(self, calls):
        walked = Walked()
        for call, told in zip(calls, ask(*calls), strict=True):
            self.assertEqual(told, walked.told(call), (call, calls))

    def test_short_spans(self):
        lot = random.Random(1)
        for _ in range(1000):
            self.check(drawn_line(lot, lot.choice([1, 2, 4, 8]), 60))

    def test_many_deeds(self):
        lot = random.Random(3)
        for _ in range(40):
            self.check(drawn_line(lot, lot.choice([1, 2]), 250))

    def test_long_spans(self):
        lot = random.Random(2)
        for _ in range(10):
            self.check(drawn_line(lot, 365, 60))
