"""Rows all round a ring, and the views that robots have of it.

A row is a list with one number for each place, from one place on, one way round.
"""


def turned(row, s):
    """The row turned by s: it begins at place s and goes on by rising numbers."""
    n = len(row)
    return [row[(s + i) % n] for i in range(n)]


def mirrored(row, s):
    """The row mirrored at s: it begins at place s and goes on by falling numbers."""
    n = len(row)
    return [row[(s - i) % n] for i in range(n)]


def told_by(eyes, robots):
    """What the eyes tell of a place with so many robots."""
    if eyes == 0:
        return robots
    if eyes == 1:
        return min(robots, 2)
    return min(robots, 1)


def looked_at(counts, eyes):
    """What the eyes tell at each place, by its number."""
    return [told_by(eyes, robots) for robots in counts]


def rising_row(counts, eyes, p):
    """The row seen from place p, by the places' numbers rising."""
    return turned(looked_at(counts, eyes), p)


def falling_row(counts, eyes, p):
    """The row seen from place p, by the places' numbers falling."""
    return mirrored(looked_at(counts, eyes), p)


def view_from(counts, eyes, p):
    """Both rows seen from place p: the lesser one, then the other one."""
    rising = rising_row(counts, eyes, p)
    falling = falling_row(counts, eyes, p)
    if falling < rising:
        return (falling, rising)
    return (rising, falling)


def is_even_handed(counts, eyes, p):
    """Whether one way looks like the other from place p."""
    return rising_row(counts, eyes, p) == falling_row(counts, eyes, p)


def lesser_row(counts, eyes, p):
    """The lesser row seen from place p: by it alone views are told apart."""
    return view_from(counts, eyes, p)[0]


def have_same_view(counts, eyes, p, q):
    """Whether the views from the places p and q are the same."""
    return lesser_row(counts, eyes, p) == lesser_row(counts, eyes, q)


def places_alike(counts, eyes, p):
    """The places with robots that have the same view as one at p, rising."""
    return [q for q in range(len(counts)) if counts[q] > 0 and have_same_view(counts, eyes, p, q)]


def number_of_views(counts, eyes):
    """How many different views robots have: each is counted at the first place that has it."""
    return len([p for p in range(len(counts)) if counts[p] > 0 and places_alike(counts, eyes, p)[0] == p])


def lonely_places(counts, eyes):
    """The places with just one robot, whose view no robot elsewhere has, rising."""
    return [p for p in range(len(counts)) if counts[p] == 1 and places_alike(counts, eyes, p) == [p]]
