"""Write a line of calls as tuples, read its answers call by call, and draw lines by lot."""

from treatyforce.treaty import answers

(START, RATIFY, NOTICE, DAY, ENDS, BOUND, PARTIES, RATIFIED, LACKS, SINCE, UNTIL, WOULD, FEWEST, DAYS, MOST, EVENT,
 BACK, STATE) = range(18)
TOP = 4294967295


def flat(calls):
    return [number for call in calls for number in call]


def parted(told):
    parts = []
    at = 0
    while at < len(told):
        behind = at + 1 + told[at]
        parts.append(told[at + 1:behind])
        at = behind
    return parts


def ask(*calls):
    """The answers of all the calls, each a list of numbers."""
    assert 1 <= len(calls) <= 1000, 'a line holds 1 to 1,000 calls'
    return parted(answers(flat(calls)))


def last(*calls):
    """The answer of the last call."""
    return ask(*calls)[-1]


def after(begun, *calls):
    """The answers of the calls behind those with which the line begins."""
    return ask(*begun, *calls)[len(begun):]


def twenty_four(n):
    """24 deeds, notice 1: each day state 0 ratifies and gives notice; the last of them is on day 11."""
    calls = [(START, n, 1, 0, 0, 1, 0)]
    for day in range(12):
        calls += [(RATIFY, 0, day), (NOTICE, 0, day)]
    return calls


def looks(n, days):
    """Calls that show all that can be told of a treaty of n states on these days."""
    calls = [(DAY,), (ENDS,), (MOST,), (STATE,)] + [(EVENT, k) for k in range(25)]
    calls += [(kind, i) for kind in (SINCE, UNTIL, DAYS) for i in range(n)]
    for d in days:
        calls += [(PARTIES, d), (RATIFIED, d), (LACKS, d), (FEWEST, d), (WOULD, 2 ** n - 1, d)]
        calls += [(BOUND, i, d) for i in range(n)] + [(WOULD, 2 ** i, d) for i in range(n)]
    return calls


def drawn_start(lot, n, most):
    return (START, n, lot.randint(1, n), lot.randrange(2 ** n) & lot.randrange(2 ** n), lot.randint(0, most),
            lot.randint(1, most), lot.randint(0, n))


def drawn_wrong_start(lot, n, most):
    terms = list(drawn_start(lot, n, most))
    terms[lot.randint(1, 6)] = lot.choice([1024, TOP])
    return tuple(terms)


def drawn_look(lot, n, most, day):
    """A call that changes nothing."""
    i = min(lot.randrange(n + 1), lot.randrange(n + 1))
    near = max(0, day + lot.randint(-2 * most, 2 * most))
    seen = lot.choice([near, near, near, day, day, 10001, TOP])
    ahead = lot.choice([day] * 10 + [near, near, 10000, 10001])
    kind = lot.choice([DAY, ENDS, ENDS, BOUND, BOUND, PARTIES, PARTIES, RATIFIED, LACKS, SINCE, UNTIL, UNTIL, WOULD,
                       WOULD, FEWEST, FEWEST, DAYS, MOST, MOST, EVENT, STATE])
    if kind in (DAY, ENDS, MOST, STATE):
        return (kind,)
    if kind == BOUND:
        return (kind, i, seen)
    if kind in (SINCE, UNTIL, DAYS):
        return (kind, i)
    if kind == WOULD:
        return (kind, lot.choice([0, 1 << i, lot.randrange(2 ** n), 2 ** n - 1]), ahead)
    if kind == FEWEST:
        return (kind, ahead)
    if kind == EVENT:
        return (kind, lot.choice([0, 1, lot.randint(0, 24)]))
    return (kind, seen)


def drawn_line(lot, most, length, first=0):
    """A line of calls with days that mostly go on slowly, waits and notices of at most so many days."""
    n = lot.randint(1, lot.choice([2, 4, 10]))
    calls = [drawn_start(lot, n, most)]
    day = first
    while len(calls) < length:
        day += lot.choice([0, 0, 0, 1, 1, 2, lot.randint(0, most)])
        if lot.randrange(100) == 0:
            calls.append(lot.choice([drawn_start, drawn_wrong_start])(lot, n, most))
        elif lot.randrange(20) == 0:
            calls.append((BACK,))
        elif lot.randrange(2) == 0:
            i = min(lot.randrange(n + 1), lot.randrange(n + 1))
            calls.append((lot.choice([RATIFY, NOTICE]), i, lot.choice([day] * 20 + [max(0, day - 1), 10001])))
        else:
            calls.append(drawn_look(lot, n, most, day))
    return calls
