"""What the tests share: calls as lists of numbers, and the answers taken apart again."""

from robotviews.rings import answers

TOP = 4294967295


def begin(n, e):
    return [0, n, e]


def put(p, x):
    return [1, p, x]


def eyes(e):
    return [2, e]


def turn(s):
    return [3, s]


def mirror(s):
    return [4, s]


def ring():
    return [5]


def seen(p):
    return [6, p]


def view(p):
    return [7, p]


def even(p):
    return [8, p]


def same(p, q):
    return [9, p, q]


def alike(p):
    return [10, p]


def views():
    return [11]


def lonely():
    return [12]


def name():
    return [13]


def turns():
    return [14]


def mirrors():
    return [15]


def axis():
    return [16]


def kinds(k):
    return [17, k]


def nth(k, i):
    return [18, k, i]


def rank():
    return [19]


def ifeyes(e):
    return [20, e]


def told():
    return [21]


def flat(calls):
    return [number for call in calls for number in call]


def taken_apart(numbers):
    """One list for each call, without the count in front of it."""
    parts = []
    at = 0
    while at < len(numbers):
        after = at + 1 + numbers[at]
        if numbers[at] < 1 or after > len(numbers):
            raise AssertionError(f"the counts don't fit at {at}: {numbers}")
        parts.append(numbers[at + 1:after])
        at = after
    return parts


def ask(*calls):
    """What is answered to each of the calls on one new object."""
    parts = taken_apart(answers(flat(calls)))
    if len(parts) != len(calls):
        raise AssertionError(f"{len(calls)} calls, {len(parts)} answers")
    return parts


def ring_of(counts, e):
    """The calls that make such a ring."""
    return [begin(len(counts), e)] + [put(p, x) for p, x in enumerate(counts) if x > 0]


def ask_of(counts, e, *calls):
    """What is answered to the calls on such a ring, without what making it answers."""
    made = ring_of(counts, e)
    return ask(*made, *calls)[len(made):]


def all_rings(n, most):
    """Every ring of n places with so many robots at most."""
    if n == 0:
        return [[]]
    return [[x] + rest for x in range(most + 1) for rest in all_rings(n - 1, most - x)]


def moved(counts, s, way):
    """Where each place goes by a turning (way 1) or mirroring (way -1), and the ring then."""
    n = len(counts)
    goes = [(i - s) % n if way == 1 else (s - i) % n for i in range(n)]
    there = [0] * n
    for i in range(n):
        there[goes[i]] = counts[i]
    return goes, there


def all_moved(counts):
    """The ring by each turning and each mirroring."""
    return [moved(counts, s, way)[1] for s in range(len(counts)) for way in (1, -1)]
