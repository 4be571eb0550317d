"""Who is bound over the days: since when, till when, on how many days, and when most are.

All is read from rows, one for each day on which who is bound may change: the day, and who is bound on it and on the
days behind it up to the next row's. Ahead of the first row nobody is bound, as nothing is done by then.
"""

from treatyforce.record import end_day
from treatyforce.record import force_day
from treatyforce.record import is_within
from treatyforce.record import out_days
from treatyforce.record import ratified_states


def change_days(treaty, start, end):
    days = [deed.day for deed in treaty.deeds] + out_days(treaty)
    if start is not None:
        days.append(start)
    if end is not None:
        days.append(end)
    return sorted(days)


def bound_rows(treaty):
    start = force_day(treaty)
    end = end_day(treaty)
    rows = []
    for day in change_days(treaty, start, end):
        rows.append((day, ratified_states(treaty, day) if is_within(start, end, day) else []))
    return rows


def first_bound_day(rows, i):
    for day, states in rows:
        if i in states:
            return day
    return None


def first_free_day(rows, i, behind):
    for day, states in rows:
        if day > behind and i not in states:
            return day
    return None


def count_bound_days(rows, i, latest):
    # A row's days go up to the next row's day, which may lie behind the latest day that counts.
    heads = [min(day, latest + 1) for day, states in rows] + [latest + 1]
    many = 0
    for at, row in enumerate(rows):
        if i in row[1]:
            many += heads[at + 1] - heads[at]
    return many


def fullest_row(rows):
    best = rows[0]
    for row in rows:
        if len(row[1]) > len(best[1]):
            best = row
    return best
