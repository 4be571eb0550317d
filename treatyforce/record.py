"""A treaty's terms, what is done under it, and what follows from that on each day.

A day that isn't there (no day on which enough have ratified, no day on which it ends) is told as None.
"""


class Deed:
    # A deed is one of two: the state ratified, or (ratified is False) it gave notice.
    def __init__(self, state, day, ratified):
        self.state = state
        self.day = day
        self.ratified = ratified


class Treaty:
    def __init__(self):
        self.n = 0
        self.need = 0
        self.named = 0
        self.wait = 0
        self.notice = 0
        self.floor = 0
        self.deeds = []


def terms_of(treaty):
    return [treaty.n, treaty.need, treaty.named, treaty.wait, treaty.notice, treaty.floor]


def set_terms(treaty, terms):
    treaty.n = terms[0]
    treaty.need = terms[1]
    treaty.named = terms[2]
    treaty.wait = terms[3]
    treaty.notice = terms[4]
    treaty.floor = terms[5]


def set_number(states):
    return sum([1 << state for state in states])


def is_in_set(number, i):
    return number >> i & 1 == 1


def last_day(treaty):
    if len(treaty.deeds) == 0:
        return 0
    return treaty.deeds[-1].day


def last_deeds(treaty, d):
    # One walk finds the last deed of all states: a walk for each state is too slow where many days are looked at.
    last = [None for i in range(treaty.n)]
    for deed in treaty.deeds:
        if deed.day <= d:
            last[deed.state] = deed
    return last


def out_day(treaty, deed):
    return deed.day + treaty.notice


def is_notice_running(treaty, deed, d):
    return deed is not None and not deed.ratified and d < out_day(treaty, deed)


def counts_as_ratified(treaty, deed, d):
    return deed is not None and (deed.ratified or d < out_day(treaty, deed))


def is_on_notice(treaty, i, d):
    return is_notice_running(treaty, last_deeds(treaty, d)[i], d)


def has_ratified(treaty, i, d):
    return counts_as_ratified(treaty, last_deeds(treaty, d)[i], d)


def ratified_states(treaty, d):
    return [i for i, deed in enumerate(last_deeds(treaty, d)) if counts_as_ratified(treaty, deed, d)]


def enough_ratified(treaty, d):
    states = ratified_states(treaty, d)
    return len(states) >= treaty.need and treaty.named & set_number(states) == treaty.named


def first_enough_day(treaty):
    # Only a deed adds a state, and deeds lie in the order of their days: no other day can be the first.
    for deed in treaty.deeds:
        if enough_ratified(treaty, deed.day):
            return deed.day
    return None


def force_day(treaty):
    first = first_enough_day(treaty)
    if first is None:
        return None
    return first + treaty.wait


def out_days(treaty):
    return [out_day(treaty, deed) for deed in treaty.deeds if not deed.ratified]


def end_day(treaty):
    start = force_day(treaty)
    if start is None:
        return None
    # States get fewer only on a day on which one is out: behind the start no other day can be the first.
    later = [out for out in out_days(treaty) if out > start]
    for day in sorted([start] + later):
        if len(ratified_states(treaty, day)) < treaty.floor:
            return day
    return None


def is_within(start, end, d):
    if start is None or d < start:
        return False
    return end is None or d < end


def bound_states(treaty, d):
    if not is_within(force_day(treaty), end_day(treaty), d):
        return []
    return ratified_states(treaty, d)


def ratified_besides(treaty, states, d):
    # The treaty itself stays as it is: what would be is looked at on a copy.
    other = Treaty()
    set_terms(other, terms_of(treaty))
    other.deeds = treaty.deeds + [Deed(i, d, True) for i in states]
    return other


def fewest_lacking(treaty, d):
    have = ratified_states(treaty, d)
    lacking = [i for i in range(treaty.n) if i not in have]
    named = [i for i in lacking if is_in_set(treaty.named, i)]
    others = [i for i in lacking if not is_in_set(treaty.named, i)]
    more = max(0, treaty.need - len(have) - len(named))
    # The others stand in rising order, so the first of them make the least number.
    return named + others[:more]
