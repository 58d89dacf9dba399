"""The calls on a ring of robots, and what they answer."""

from robotviews.names import axis_places, mirrorings_kept, name_of, names_of, rank_of, turnings_kept
from robotviews.rows import have_same_view, is_even_handed, lonely_places, mirrored, number_of_views
from robotviews.rows import places_alike, rising_row, turned, view_from

BEGIN = 0
PUT = 1
EYES = 2
TURN = 3
MIRROR = 4
RING = 5
SEEN = 6
VIEW = 7
EVEN = 8
SAME = 9
ALIKE = 10
VIEWS = 11
LONELY = 12
NAME = 13
TURNS = 14
MIRRORS = 15
AXIS = 16
KINDS = 17
NTH = 18
RANK = 19
IFEYES = 20
TOLD = 21

# How many numbers stand behind each call's own.
ARGUMENTS = (2, 2, 1, 1, 1, 0, 1, 1, 1, 2, 1, 0, 0, 0, 0, 0, 0, 1, 2, 0, 1, 0)

NO_SUCH_PLACE = -2
NOT_BEGUN = -11
OUT_OF_BOUNDS = -22
TOO_MANY_ROBOTS = -28
NOBODY_THERE = -33
NO_SUCH_NAME = -33

LEAST_PLACES = 3
MOST_PLACES = 8
MOST_ROBOTS = 6
LAST_EYES = 2


class Ring:
    """How many robots are at each place, and the eyes they have.

    A ring of no places is one that hasn't begun.
    """

    def __init__(self):
        self.counts = []
        self.eyes = 0


def answer_begin(ring, n, e):
    if n < LEAST_PLACES or n > MOST_PLACES or e > LAST_EYES:
        return [OUT_OF_BOUNDS]
    ring.counts = [0 for place in range(n)]
    ring.eyes = e
    return [0]


def answer_put(ring, p, x):
    if p >= len(ring.counts):
        return [NO_SUCH_PLACE]
    if x > MOST_ROBOTS:
        return [OUT_OF_BOUNDS]
    before = ring.counts[p]
    if sum(ring.counts) - before + x > MOST_ROBOTS:
        return [TOO_MANY_ROBOTS]
    ring.counts[p] = x
    return [before]


def answer_eyes(ring, e):
    if e > LAST_EYES:
        return [OUT_OF_BOUNDS]
    before = ring.eyes
    ring.eyes = e
    return [before]


def answer_turn(ring, s):
    if s >= len(ring.counts):
        return [NO_SUCH_PLACE]
    ring.counts = turned(ring.counts, s)
    return [0]


def answer_mirror(ring, s):
    if s >= len(ring.counts):
        return [NO_SUCH_PLACE]
    ring.counts = mirrored(ring.counts, s)
    return [0]


def with_count(numbers):
    """The numbers, with how many they are before them."""
    return [len(numbers)] + numbers


def yes_or_no(holds):
    return [1] if holds else [0]


def refusal_at(ring, places):
    """The refusal that is due if a robot is to be at each of these places, or 0."""
    # Every place is looked for before any robot is: -2 comes ahead of -33.
    for p in places:
        if p >= len(ring.counts):
            return NO_SUCH_PLACE
    for p in places:
        if ring.counts[p] == 0:
            return NOBODY_THERE
    return 0


def answer_of_robots(ring, number, places):
    """Answers a call whose numbers are all places at which robots are to be."""
    refusal = refusal_at(ring, places)
    if refusal < 0:
        return [refusal]
    p = places[0]
    if number == SEEN:
        return with_count(rising_row(ring.counts, ring.eyes, p))
    if number == VIEW:
        both = view_from(ring.counts, ring.eyes, p)
        return with_count(both[0] + both[1])
    if number == EVEN:
        return yes_or_no(is_even_handed(ring.counts, ring.eyes, p))
    if number == SAME:
        return yes_or_no(have_same_view(ring.counts, ring.eyes, p, places[1]))
    return with_count(places_alike(ring.counts, ring.eyes, p))


def answer_kinds(ring, k):
    if k > MOST_ROBOTS:
        return [OUT_OF_BOUNDS]
    return [len(names_of(len(ring.counts), k))]


def answer_nth(ring, k, i):
    if k > MOST_ROBOTS:
        return [OUT_OF_BOUNDS]
    names = names_of(len(ring.counts), k)
    if i >= len(names):
        return [NO_SUCH_NAME]
    return with_count(names[i])


def answer_ifeyes(ring, e):
    if e > LAST_EYES:
        return [OUT_OF_BOUNDS]
    return [number_of_views(ring.counts, e)] + lonely_places(ring.counts, e)


def answer_told(ring):
    with_robots = [robots for robots in ring.counts if robots > 0]
    return [len(ring.counts), ring.eyes, sum(ring.counts), len(with_robots)]


def answer_of_ring(ring, number):
    """Answers a call that has no numbers of its own: none of them is refused."""
    if number == RING:
        return with_count(ring.counts)
    if number == VIEWS:
        return [number_of_views(ring.counts, ring.eyes)]
    if number == LONELY:
        return with_count(lonely_places(ring.counts, ring.eyes))
    if number == NAME:
        return with_count(name_of(ring.counts))
    if number == TURNS:
        return [len(turnings_kept(ring.counts))]
    if number == MIRRORS:
        return [len(mirrorings_kept(ring.counts))]
    if number == AXIS:
        return with_count(axis_places(ring.counts))
    if number == RANK:
        return [rank_of(ring.counts), sum(ring.counts)]
    return answer_told(ring)


def answer_call(ring, number, given):
    """Answers one call: the numbers that are answered, in their order."""
    if number == BEGIN:
        return answer_begin(ring, given[0], given[1])
    if len(ring.counts) == 0:
        return [NOT_BEGUN]
    if number == PUT:
        return answer_put(ring, given[0], given[1])
    if number == EYES:
        return answer_eyes(ring, given[0])
    if number == TURN:
        return answer_turn(ring, given[0])
    if number == MIRROR:
        return answer_mirror(ring, given[0])
    if number == KINDS:
        return answer_kinds(ring, given[0])
    if number == NTH:
        return answer_nth(ring, given[0], given[1])
    if number == IFEYES:
        return answer_ifeyes(ring, given[0])
    if SEEN <= number <= ALIKE:
        return answer_of_robots(ring, number, given)
    return answer_of_ring(ring, number)


def answers(calls):
    """Answers the calls on one new ring: for each, how many numbers are answered, then these."""
    ring = Ring()
    told = []
    at = 0
    while at < len(calls):
        number = calls[at]
        after = at + 1 + ARGUMENTS[number]
        told.extend(with_count(answer_call(ring, number, calls[at + 1:after])))
        at = after
    return told
