"""Write a line of calls as tuples, and read its answers call by call."""

from treatyforce.treaty import answers

START, RATIFY, NOTICE, DAY, ENDS, BOUND, PARTIES, RATIFIED, LACKS = range(9)
TOP = 4294967295


def flat(calls):
    return [number for call in calls for number in call]


def parted(told):
    parts = []
    at = 0
    while at < len(told):
        behind = at + 1 + told[at]
        parts.append(told[at + 1:behind])
        at = behind
    return parts


def ask(*calls):
    """The answers of all the calls, each a list of numbers."""
    return parted(answers(flat(calls)))


def last(*calls):
    """The answer of the last call."""
    return ask(*calls)[-1]


def looks(n, days):
    """Calls that show all that can be told of a treaty of n states on these days."""
    calls = [(DAY,), (ENDS,)]
    for d in days:
        calls += [(PARTIES, d), (RATIFIED, d), (LACKS, d)]
        calls += [(BOUND, i, d) for i in range(n)]
    return calls
