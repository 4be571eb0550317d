"""The calls on one treaty.

Each takes the treaty and the whole numbers it is given, and answers a list of numbers: what it answers first,
then what stands under out. A refusal is one number below 0.
"""

from treatyforce.record import Deed
from treatyforce.record import Treaty
from treatyforce.record import bound_states
from treatyforce.record import end_day
from treatyforce.record import force_day
from treatyforce.record import has_ratified
from treatyforce.record import is_on_notice
from treatyforce.record import last_day
from treatyforce.record import out_day
from treatyforce.record import ratified_states
from treatyforce.record import set_number

MOST_STATES = 10
MOST_WAIT = 365
MOST_NOTICE = 365
LATEST_DAY = 10000
MOST_DEEDS = 24

NO_REFUSAL = 0
NONE_THERE = -2
NOT_RATIFIED = -6
LATER_DONE = -13
NOTICE_RUNS = -16
ALREADY_SO = -17
NOT_AS_TOLD = -22
FULL = -28
NEVER_ENOUGH = -33
NO_END = -61


class CallNotBuilt(Exception):
    pass


def are_terms(n, need, named, wait, notice, floor):
    if n < 1 or n > MOST_STATES:
        return False
    if need < 1 or need > n or named >= 1 << n or floor > n:
        return False
    return wait <= MOST_WAIT and 1 <= notice <= MOST_NOTICE


def fo_start(treaty, given):
    if not are_terms(given[0], given[1], given[2], given[3], given[4], given[5]):
        return [NOT_AS_TOLD]
    treaty.n = given[0]
    treaty.need = given[1]
    treaty.named = given[2]
    treaty.wait = given[3]
    treaty.notice = given[4]
    treaty.floor = given[5]
    treaty.deeds = []
    return [0]


def deed_refusal(treaty, i, d):
    if i >= treaty.n:
        return NONE_THERE
    if d > LATEST_DAY:
        return NOT_AS_TOLD
    if last_day(treaty) > d:
        return LATER_DONE
    return NO_REFUSAL


def fo_ratify(treaty, given):
    i = given[0]
    d = given[1]
    refusal = deed_refusal(treaty, i, d)
    if refusal != NO_REFUSAL:
        return [refusal]
    # A state on notice counts as having ratified too, so this is asked ahead of that.
    if is_on_notice(treaty, i, d):
        return [NOTICE_RUNS]
    if has_ratified(treaty, i, d):
        return [ALREADY_SO]
    if len(treaty.deeds) >= MOST_DEEDS:
        return [FULL]
    treaty.deeds.append(Deed(i, d, True))
    return [len(ratified_states(treaty, d))]


def fo_notice(treaty, given):
    i = given[0]
    d = given[1]
    refusal = deed_refusal(treaty, i, d)
    if refusal != NO_REFUSAL:
        return [refusal]
    if not has_ratified(treaty, i, d):
        return [NOT_RATIFIED]
    if is_on_notice(treaty, i, d):
        return [ALREADY_SO]
    if len(treaty.deeds) >= MOST_DEEDS:
        return [FULL]
    deed = Deed(i, d, False)
    treaty.deeds.append(deed)
    return [out_day(treaty, deed)]


def fo_day(treaty, given):
    start = force_day(treaty)
    if start is None:
        return [NEVER_ENOUGH]
    return [start]


def fo_ends(treaty, given):
    if force_day(treaty) is None:
        return [NEVER_ENOUGH]
    end = end_day(treaty)
    if end is None:
        return [NO_END]
    return [end]


def fo_bound(treaty, given):
    i = given[0]
    if i >= treaty.n:
        return [NONE_THERE]
    return [1 if i in bound_states(treaty, given[1]) else 0]


def fo_parties(treaty, given):
    states = bound_states(treaty, given[0])
    return [len(states), set_number(states)]


def fo_ratified(treaty, given):
    states = ratified_states(treaty, given[0])
    return [len(states), set_number(states)]


def fo_lacks(treaty, given):
    states = ratified_states(treaty, given[0])
    missing = treaty.named - (treaty.named & set_number(states))
    return [max(0, treaty.need - len(states)), missing]


# A list can only be parted into calls if the length of each is known, so all 18 of the interface stand here.
WIDTHS = (6, 2, 2, 0, 0, 2, 1, 1, 1, 1, 1, 2, 1, 1, 0, 1, 0, 0)

# Each stands at the place of its number in the interface.
CALLS = (fo_start, fo_ratify, fo_notice, fo_day, fo_ends, fo_bound, fo_parties, fo_ratified, fo_lacks)


def split_calls(calls):
    parts = []
    at = 0
    while at < len(calls):
        behind = at + 1 + WIDTHS[calls[at]]
        parts.append((calls[at], calls[at + 1:behind]))
        at = behind
    return parts


def answer_call(treaty, number, given):
    if number >= len(CALLS):
        raise CallNotBuilt(f"call {number}")
    return CALLS[number](treaty, given)


def answers(calls):
    treaty = Treaty()
    told = []
    for part in split_calls(calls):
        answer = answer_call(treaty, part[0], part[1])
        told.append(len(answer))
        told.extend(answer)
    return told
