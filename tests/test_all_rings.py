"""Every ring there is, held against what the document says of views, turnings, mirrorings and names."""

import unittest

from tests.lines import (alike, all_moved, all_rings, ask, ask_of, axis, begin, even, eyes, ifeyes, kinds, lonely,
                         mirror, mirrors, moved, name, nth, rank, ring, same, seen, told, turn, turns, view, views)

# What eyes tell of no robots, of one, and so on: written out, so that nothing is reckoned as the program does.
TOLD = {0: "0123456", 1: "0122222", 2: "0111111"}


def rows_of(counts, e, p):
    """The rising and the falling row from p, as texts."""
    rising = "".join(TOLD[e][x] for x in counts)
    falling = rising[::-1]
    back = len(counts) - 1 - p
    return rising[p:] + rising[:p], falling[back:] + falling[:back]


def views_and_lonely(counts, e):
    """How many different views there are, and the places of the lonely."""
    having = {}
    for p, x in enumerate(counts):
        if x:
            having.setdefault(min(rows_of(counts, e, p)), []).append(p)
    return len(having), sorted(places[0] for places in having.values() if len(places) == 1 and counts[places[0]] == 1)


def names_in_order(n, k):
    """The names of k robots, each the first that's met of those it's alike to."""
    names = []
    met = set()
    for counts in sorted(counts for counts in all_rings(n, k) if sum(counts) == k):
        if tuple(counts) not in met:
            names.append(counts)
            met |= {tuple(there) for there in all_moved(counts)}
    return names


def numbers(text):
    return [int(sign) for sign in text]


class AllRings(unittest.TestCase):
    def check_place(self, counts, e, p):
        rising, falling = rows_of(counts, e, p)
        lesser, other = sorted([rising, falling])
        those = [q for q, x in enumerate(counts) if x and min(rows_of(counts, e, q)) == lesser]
        with_robots = [q for q, x in enumerate(counts) if x]
        got = ask_of(counts, e, seen(p), view(p), even(p), alike(p), *[same(p, q) for q in with_robots])
        wanted = [
            [len(counts)] + numbers(rising),
            [2 * len(counts)] + numbers(lesser + other),
            [1 if rising == falling else 0],
            [len(those)] + those,
        ] + [[1 if q in those else 0] for q in with_robots]
        self.assertEqual(got, wanted, (counts, e, p))

    def test_views(self):
        for n in range(3, 9):
            for counts in all_rings(n, 6 if n < 7 else 4):
                for e in range(3):
                    for p in range(n):
                        if counts[p] > 0:
                            self.check_place(counts, e, p)

    def test_views_lonely_and_ifeyes(self):
        for n in range(3, 9):
            for counts in all_rings(n, 6 if n < 7 else 4):
                known = [views_and_lonely(counts, e) for e in range(3)]
                if_eyes = [[number] + places for number, places in known]
                for e, (number, places) in enumerate(known):
                    got = ask_of(counts, e, views(), lonely(), ifeyes(0), ifeyes(1), ifeyes(2), eyes(0))
                    self.assertEqual(got, [[number], [len(places)] + places, *if_eyes, [e]], (counts, e))

    def test_names(self):
        for n in range(3, 9):
            for counts in all_rings(n, 6):
                turnings = [s for s in range(n) if moved(counts, s, 1)[1] == counts]
                mirrorings = [moved(counts, s, -1)[0] for s in range(n) if moved(counts, s, -1)[1] == counts]
                stay = [i for i in range(n) if any(goes[i] == i for goes in mirrorings)]
                got = ask_of(counts, sum(counts) % 3, name(), turns(), mirrors(), axis())
                wanted = [[n] + min(all_moved(counts)), [len(turnings)], [len(mirrorings)], [len(stay)] + stay]
                self.assertEqual(got, wanted, counts)

    def test_order_of_names(self):
        for n in range(3, 9):
            for k in range(7):
                names = names_in_order(n, k)
                self.assertEqual(ask(begin(n, 0), kinds(k), nth(k, len(names))), [[0], [len(names)], [-33]])
                for i, counts in enumerate(names):
                    got = ask_of(counts, 0, nth(k, i), mirror(i % n), turn(1), rank())
                    self.assertEqual(got, [[n] + counts, [0], [0], [i, k]])

    def test_told(self):
        for n in range(3, 9):
            for counts in all_rings(n, 6):
                e = counts[0] % 3
                self.assertEqual(ask_of(counts, e, told()), [[n, e, sum(counts), n - counts.count(0)]])

    def test_turn_and_mirror(self):
        for n in range(3, 9):
            for counts in all_rings(n, 6 if n < 7 else 3):
                for s in range(n):
                    self.assertEqual(ask_of(counts, 0, turn(s), ring()), [[0], [n] + moved(counts, s, 1)[1]])
                    self.assertEqual(ask_of(counts, 0, mirror(s), ring()), [[0], [n] + moved(counts, s, -1)[1]])


if __name__ == "__main__":
    unittest.main()
