"""The calls on one treaty.

Each takes the treaty and the whole numbers it is given, and answers a list of numbers: what it answers first,
then what stands under out. A refusal is one number below 0.
"""

from treatyforce.record import Deed
from treatyforce.record import Treaty
from treatyforce.record import bound_states
from treatyforce.record import end_day
from treatyforce.record import fewest_lacking
from treatyforce.record import force_day
from treatyforce.record import has_ratified
from treatyforce.record import is_in_set
from treatyforce.record import is_on_notice
from treatyforce.record import last_day
from treatyforce.record import out_day
from treatyforce.record import ratified_besides
from treatyforce.record import ratified_states
from treatyforce.record import set_number
from treatyforce.record import set_terms
from treatyforce.record import terms_of
from treatyforce.stretches import bound_rows
from treatyforce.stretches import count_bound_days
from treatyforce.stretches import first_bound_day
from treatyforce.stretches import first_free_day
from treatyforce.stretches import fullest_row

MOST_STATES = 10
MOST_WAIT = 365
MOST_NOTICE = 365
LATEST_DAY = 10000
MOST_DEEDS = 24

NO_REFUSAL = 0
NONE_THERE = -2
NOT_RATIFIED = -6
LATER_DONE = -13
NOTICE_RUNS = -16
ALREADY_SO = -17
NOT_AS_TOLD = -22
FULL = -28
NO_DAY = -33
NO_END = -61


def are_terms(n, need, named, wait, notice, floor):
    if n < 1 or n > MOST_STATES:
        return False
    if need < 1 or need > n or named >= 1 << n or floor > n:
        return False
    return wait <= MOST_WAIT and 1 <= notice <= MOST_NOTICE


def fo_start(treaty, given):
    if not are_terms(given[0], given[1], given[2], given[3], given[4], given[5]):
        return [NOT_AS_TOLD]
    set_terms(treaty, given)
    treaty.deeds = []
    return [0]


def day_refusal(treaty, d):
    if d > LATEST_DAY:
        return NOT_AS_TOLD
    if last_day(treaty) > d:
        return LATER_DONE
    return NO_REFUSAL


def deed_refusal(treaty, i, d):
    if i >= treaty.n:
        return NONE_THERE
    return day_refusal(treaty, d)


def fo_ratify(treaty, given):
    i = given[0]
    d = given[1]
    refusal = deed_refusal(treaty, i, d)
    if refusal != NO_REFUSAL:
        return [refusal]
    # A state on notice counts as having ratified too, so this is asked ahead of that.
    if is_on_notice(treaty, i, d):
        return [NOTICE_RUNS]
    if has_ratified(treaty, i, d):
        return [ALREADY_SO]
    if len(treaty.deeds) >= MOST_DEEDS:
        return [FULL]
    treaty.deeds.append(Deed(i, d, True))
    return [len(ratified_states(treaty, d))]


def fo_notice(treaty, given):
    i = given[0]
    d = given[1]
    refusal = deed_refusal(treaty, i, d)
    if refusal != NO_REFUSAL:
        return [refusal]
    if not has_ratified(treaty, i, d):
        return [NOT_RATIFIED]
    if is_on_notice(treaty, i, d):
        return [ALREADY_SO]
    if len(treaty.deeds) >= MOST_DEEDS:
        return [FULL]
    deed = Deed(i, d, False)
    treaty.deeds.append(deed)
    return [out_day(treaty, deed)]


def fo_day(treaty, given):
    start = force_day(treaty)
    if start is None:
        return [NO_DAY]
    return [start]


def fo_ends(treaty, given):
    if force_day(treaty) is None:
        return [NO_DAY]
    end = end_day(treaty)
    if end is None:
        return [NO_END]
    return [end]


def fo_bound(treaty, given):
    i = given[0]
    if i >= treaty.n:
        return [NONE_THERE]
    return [1 if i in bound_states(treaty, given[1]) else 0]


def fo_parties(treaty, given):
    states = bound_states(treaty, given[0])
    return [len(states), set_number(states)]


def fo_ratified(treaty, given):
    states = ratified_states(treaty, given[0])
    return [len(states), set_number(states)]


def fo_lacks(treaty, given):
    states = ratified_states(treaty, given[0])
    missing = treaty.named - (treaty.named & set_number(states))
    return [max(0, treaty.need - len(states)), missing]


def fo_since(treaty, given):
    i = given[0]
    if i >= treaty.n:
        return [NONE_THERE]
    since = first_bound_day(bound_rows(treaty), i)
    if since is None:
        return [NO_DAY]
    return [since]


def fo_until(treaty, given):
    i = given[0]
    if i >= treaty.n:
        return [NONE_THERE]
    rows = bound_rows(treaty)
    since = first_bound_day(rows, i)
    if since is None:
        return [NO_DAY]
    until = first_free_day(rows, i, since)
    if until is None:
        return [NO_END]
    return [until]


def would_refusal(treaty, s, d):
    if s >= 1 << treaty.n:
        return NOT_AS_TOLD
    refusal = day_refusal(treaty, d)
    if refusal != NO_REFUSAL:
        return refusal
    if any([is_in_set(s, i) and is_on_notice(treaty, i, d) for i in range(treaty.n)]):
        return NOTICE_RUNS
    return NO_REFUSAL


def fo_would(treaty, given):
    s = given[0]
    d = given[1]
    refusal = would_refusal(treaty, s, d)
    if refusal != NO_REFUSAL:
        return [refusal]
    have = ratified_states(treaty, d)
    joining = [i for i in range(treaty.n) if is_in_set(s, i) and i not in have]
    return fo_day(ratified_besides(treaty, joining, d), [])


def fo_fewest(treaty, given):
    d = given[0]
    refusal = day_refusal(treaty, d)
    if refusal != NO_REFUSAL:
        return [refusal]
    if force_day(treaty) is not None:
        return [ALREADY_SO]
    states = fewest_lacking(treaty, d)
    return [len(states), set_number(states)]


def fo_days(treaty, given):
    i = given[0]
    if i >= treaty.n:
        return [NONE_THERE]
    return [count_bound_days(bound_rows(treaty), i, LATEST_DAY)]


def fo_most(treaty, given):
    if len(treaty.deeds) == 0:
        return [NO_DAY]
    row = fullest_row(bound_rows(treaty))
    return [len(row[1]), row[0]]


def fo_event(treaty, given):
    k = given[0]
    if k >= len(treaty.deeds):
        return [NONE_THERE]
    deed = treaty.deeds[k]
    return [1 if deed.ratified else 0, deed.state, deed.day]


def fo_back(treaty, given):
    if len(treaty.deeds) == 0:
        return [NONE_THERE]
    treaty.deeds.pop()
    return [len(treaty.deeds)]


def fo_state(treaty, given):
    return [len(treaty.deeds)] + terms_of(treaty) + [last_day(treaty)]


# How many whole numbers each call is given, at the place of its number in the interface.
WIDTHS = (6, 2, 2, 0, 0, 2, 1, 1, 1, 1, 1, 2, 1, 1, 0, 1, 0, 0)

# Each stands at the place of its number in the interface.
CALLS = (fo_start, fo_ratify, fo_notice, fo_day, fo_ends, fo_bound, fo_parties, fo_ratified, fo_lacks,
         fo_since, fo_until, fo_would, fo_fewest, fo_days, fo_most, fo_event, fo_back, fo_state)


def split_calls(calls):
    parts = []
    at = 0
    while at < len(calls):
        behind = at + 1 + WIDTHS[calls[at]]
        parts.append((calls[at], calls[at + 1:behind]))
        at = behind
    return parts


def answers(calls):
    treaty = Treaty()
    told = []
    for number, given in split_calls(calls):
        answer = CALLS[number](treaty, given)
        told.append(len(answer))
        told.extend(answer)
    return told
