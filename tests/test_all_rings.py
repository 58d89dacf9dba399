"""Every ring there is, held against what the document says of views, turnings and mirrorings."""

import unittest

from tests.lines import alike, ask_of, even, eyes, mirror, ring, same, seen, turn, view


def all_rings(n, most):
    """Every ring of n places with so many robots at most."""
    if n == 0:
        return [[]]
    return [[x] + rest for x in range(most + 1) for rest in all_rings(n - 1, most - x)]


# What eyes tell of no robots, of one, and so on: written out, so that nothing is reckoned as the program does.
TOLD = {0: "0123456", 1: "0122222", 2: "0111111"}


def rows_of(counts, e, p):
    """The rising and the falling row from p, as texts."""
    rising = "".join(TOLD[e][x] for x in counts)
    falling = rising[::-1]
    back = len(counts) - 1 - p
    return rising[p:] + rising[:p], falling[back:] + falling[:back]


def numbers(text):
    return [int(sign) for sign in text]


def moved(counts, s, way):
    """Where each place goes by a turning (way 1) or mirroring (way -1), and the ring then."""
    n = len(counts)
    goes = [(i - s) % n if way == 1 else (s - i) % n for i in range(n)]
    there = [0] * n
    for i in range(n):
        there[goes[i]] = counts[i]
    return goes, there


def taken_together(counts):
    """For each place, those to which it's taken by what leaves the ring as it is."""
    together = [set() for place in counts]
    for s in range(len(counts)):
        for way in (1, -1):
            goes, there = moved(counts, s, way)
            if there == counts:
                for i, j in enumerate(goes):
                    together[i].add(j)
    return [sorted(places) for places in together]


class AllRings(unittest.TestCase):
    def check_place(self, counts, e, p):
        rising, falling = rows_of(counts, e, p)
        lesser, other = sorted([rising, falling])
        those = [q for q, x in enumerate(counts) if x and min(rows_of(counts, e, q)) == lesser]
        with_robots = [q for q, x in enumerate(counts) if x]
        told = ask_of(counts, e, seen(p), view(p), even(p), alike(p), *[same(p, q) for q in with_robots])
        wanted = [
            [len(counts)] + numbers(rising),
            [2 * len(counts)] + numbers(lesser + other),
            [1 if rising == falling else 0],
            [len(those)] + those,
        ] + [[1 if q in those else 0] for q in with_robots]
        self.assertEqual(told, wanted, (counts, e, p))

    def test_views(self):
        for n in range(3, 9):
            for counts in all_rings(n, 6 if n < 7 else 4):
                for e in range(3):
                    for p in range(n):
                        if counts[p] > 0:
                            self.check_place(counts, e, p)

    def test_eyes_0_tell_who_is_taken_to_whom(self):
        for n in range(3, 9):
            for counts in all_rings(n, 6):
                together = taken_together(counts)
                with_robots = [p for p in range(n) if counts[p] > 0]
                told = ask_of(counts, 0, *[alike(p) for p in with_robots])
                self.assertEqual(told, [[len(together[p])] + together[p] for p in with_robots], counts)

    def test_who_has_the_same_view_with_eyes_0_has_it_with_others(self):
        for n in range(3, 9):
            for counts in all_rings(n, 4):
                for p in range(n):
                    if counts[p] > 0:
                        told = ask_of(counts, 0, alike(p), eyes(1), alike(p), eyes(2), alike(p))
                        self.assertLessEqual(set(told[0][1:]), set(told[2][1:]), counts)
                        self.assertLessEqual(set(told[2][1:]), set(told[4][1:]), counts)

    def test_turn_and_mirror(self):
        for n in range(3, 9):
            for counts in all_rings(n, 6 if n < 7 else 3):
                for s in range(n):
                    self.assertEqual(ask_of(counts, 0, turn(s), ring()), [[0], [n] + moved(counts, s, 1)[1]])
                    self.assertEqual(ask_of(counts, 0, mirror(s), ring()), [[0], [n] + moved(counts, s, -1)[1]])


if __name__ == "__main__":
    unittest.main()
