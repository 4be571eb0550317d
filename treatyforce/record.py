"""A treaty's terms, what is done under it, and what follows from that on each day.

A day that isn't there (no day on which enough have ratified, no day on which it ends) is told as None.
"""


class Deed:
    # A deed is one of two: the state ratified, or (ratified is False) it gave notice.
    def __init__(self, state, day, ratified):
        self.state = state
        self.day = day
        self.ratified = ratified


class Treaty:
    def __init__(self):
        self.n = 0
        self.need = 0
        self.named = 0
        self.wait = 0
        self.notice = 0
        self.floor = 0
        self.deeds = []


def set_number(states):
    return sum([1 << state for state in states])


def last_day(treaty):
    if len(treaty.deeds) == 0:
        return 0
    return treaty.deeds[-1].day


def last_deed(treaty, i, d):
    last = None
    for deed in treaty.deeds:
        if deed.state == i and deed.day <= d:
            last = deed
    return last


def out_day(treaty, deed):
    return deed.day + treaty.notice


def is_on_notice(treaty, i, d):
    last = last_deed(treaty, i, d)
    if last is None or last.ratified:
        return False
    return d < out_day(treaty, last)


def has_ratified(treaty, i, d):
    last = last_deed(treaty, i, d)
    if last is None:
        return False
    return last.ratified or d < out_day(treaty, last)


def ratified_states(treaty, d):
    return [i for i in range(treaty.n) if has_ratified(treaty, i, d)]


def enough_ratified(treaty, d):
    states = ratified_states(treaty, d)
    return len(states) >= treaty.need and treaty.named & set_number(states) == treaty.named


def first_enough_day(treaty):
    # Only a deed adds a state, and deeds lie in the order of their days: no other day can be the first.
    for deed in treaty.deeds:
        if enough_ratified(treaty, deed.day):
            return deed.day
    return None


def force_day(treaty):
    first = first_enough_day(treaty)
    if first is None:
        return None
    return first + treaty.wait


def end_day(treaty):
    start = force_day(treaty)
    if start is None:
        return None
    # States get fewer only on a day on which one is out: behind the start no other day can be the first.
    outs = [out_day(treaty, deed) for deed in treaty.deeds if not deed.ratified]
    later = [out for out in outs if out > start]
    for day in sorted([start] + later):
        if len(ratified_states(treaty, day)) < treaty.floor:
            return day
    return None


def is_in_force(treaty, d):
    start = force_day(treaty)
    if start is None or d < start:
        return False
    end = end_day(treaty)
    return end is None or d < end


def bound_states(treaty, d):
    if not is_in_force(treaty, d):
        return []
    return ratified_states(treaty, d)
