"""Rings that are the same turned or mirrored, and the names that they share.

All here goes by how many robots are at each place; no eyes matter.
"""

from robotviews.rows import mirrored, turned


def turnings_kept(counts):
    """By which s the ring can be turned and is as it was, rising."""
    return [s for s in range(len(counts)) if turned(counts, s) == counts]


def mirrorings_kept(counts):
    """At which s the ring can be mirrored and is as it was, rising."""
    return [s for s in range(len(counts)) if mirrored(counts, s) == counts]


def axis_places(counts):
    """The places that stay where they are by a mirroring that leaves the ring as it is, rising."""
    kept = mirrorings_kept(counts)
    n = len(counts)
    # Place i comes to s - i all round, so it stays just if s is twice i all round.
    return [i for i in range(n) if (2 * i) % n in kept]


def rings_alike(counts):
    """The ring by each turning, then by each mirroring."""
    n = len(counts)
    return [turned(counts, s) for s in range(n)] + [mirrored(counts, s) for s in range(n)]


def name_of(counts):
    """The ring's name: the first in order of all rings alike to it."""
    return min(rings_alike(counts))


def is_name(counts):
    """Whether the ring is its own name: no ring alike to it comes before it."""
    for s in range(len(counts)):
        if turned(counts, s) < counts or mirrored(counts, s) < counts:
            return False
    return True


def rings_of(n, robots):
    """All rings of n places with so many robots altogether, in order."""
    if n == 1:
        return [[robots]]
    rings = []
    for first in range(robots + 1):
        rings.extend([[first] + others for others in rings_of(n - 1, robots - first)])
    return rings


def names_of(n, robots):
    """The names of so many robots on n places, in order."""
    return [counts for counts in rings_of(n, robots) if is_name(counts)]


def rank_of(counts):
    """As the how-manieth the ring's name stands among the names of as many robots, from 0."""
    return names_of(len(counts), sum(counts)).index(name_of(counts))
