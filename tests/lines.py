"""What the tests share: calls as lists of numbers, and the answers taken apart again."""

from robotviews.rings import answers

TOP = 4294967295


def begin(n, e):
    return [0, n, e]


def put(p, x):
    return [1, p, x]


def eyes(e):
    return [2, e]


def turn(s):
    return [3, s]


def mirror(s):
    return [4, s]


def ring():
    return [5]


def seen(p):
    return [6, p]


def view(p):
    return [7, p]


def even(p):
    return [8, p]


def same(p, q):
    return [9, p, q]


def alike(p):
    return [10, p]


def flat(calls):
    return [number for call in calls for number in call]


def taken_apart(told):
    """One list for each call, without the count in front of it."""
    parts = []
    at = 0
    while at < len(told):
        after = at + 1 + told[at]
        if told[at] < 1 or after > len(told):
            raise AssertionError(f"the counts don't fit at {at}: {told}")
        parts.append(told[at + 1:after])
        at = after
    return parts


def ask(*calls):
    """What is answered to each of the calls on one new object."""
    parts = taken_apart(answers(flat(calls)))
    if len(parts) != len(calls):
        raise AssertionError(f"{len(calls)} calls, {len(parts)} answers")
    return parts


def ring_of(counts, e):
    """The calls that make such a ring."""
    return [begin(len(counts), e)] + [put(p, x) for p, x in enumerate(counts) if x > 0]


def ask_of(counts, e, *calls):
    """What is answered to the calls on such a ring, without what making it answers."""
    made = ring_of(counts, e)
    return ask(*made, *calls)[len(made):]
