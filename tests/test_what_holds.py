"""What holds, sentence by sentence, over every ring there is."""

import unittest

from tests.lines import (alike, all_moved, all_rings, ask, ask_of, begin, eyes, kinds, lonely, mirrors, moved, name,
                         rank, same, turns)

SIZES = range(3, 9)


def taken_together(counts):
    """For each place, those to which it's taken by what leaves the ring as it is."""
    together = [set() for place in counts]
    for s in range(len(counts)):
        for way in (1, -1):
            goes, there = moved(counts, s, way)
            if there == counts:
                for i, j in enumerate(goes):
                    together[i].add(j)
    return [sorted(places) for places in together]


def with_robots(counts):
    return [p for p, x in enumerate(counts) if x > 0]


class WhatHolds(unittest.TestCase):
    def test_with_eyes_0_the_same_view_is_to_be_taken_to_one_another(self):
        for n in SIZES:
            for counts in all_rings(n, 6):
                together = taken_together(counts)
                places = with_robots(counts)
                self.assertEqual(ask_of(counts, 0, *[alike(p) for p in places]),
                                 [[len(together[p])] + together[p] for p in places], counts)

    def test_with_eyes_0_same_answers_so_too(self):
        for n in SIZES:
            for counts in all_rings(n, 4):
                together = taken_together(counts)
                pairs = [(p, q) for p in with_robots(counts) for q in with_robots(counts)]
                self.assertEqual(ask_of(counts, 0, *[same(p, q) for p, q in pairs]),
                                 [[1 if q in together[p] else 0] for p, q in pairs], counts)

    def test_the_same_name_is_to_be_alike(self):
        for n in SIZES:
            named = {tuple(counts): ask_of(counts, 0, name())[0] for counts in all_rings(n, 6)}
            with_name = {}
            for counts, answered in named.items():
                with_name.setdefault(tuple(answered), set()).add(counts)
            for counts, answered in named.items():
                self.assertEqual(with_name[tuple(answered)], {tuple(there) for there in all_moved(counts)})

    def test_who_has_the_same_view_with_eyes_0_has_it_with_others(self):
        for n in SIZES:
            for counts in all_rings(n, 6 if n < 7 else 4):
                for p in with_robots(counts):
                    got = ask_of(counts, 0, alike(p), eyes(1), alike(p), eyes(2), alike(p))
                    self.assertLessEqual(set(got[0][1:]), set(got[2][1:]), counts)
                    self.assertLessEqual(set(got[0][1:]), set(got[4][1:]), counts)

    def test_as_many_mirrorings_as_turnings_or_none(self):
        for n in SIZES:
            met = set()
            for counts in all_rings(n, 6):
                got = ask_of(counts, 0, turns(), mirrors())
                self.assertIn(got[1], (got[0], [0]), counts)
                met.add(got[1] == [0])
            self.assertEqual(met, {True, False})

    def test_names_times_twice_the_places(self):
        for n in SIZES:
            kept = [0] * 7
            for counts in all_rings(n, 6):
                got = ask_of(counts, 0, turns(), mirrors())
                kept[sum(counts)] += got[0][0] + got[1][0]
            got = ask(begin(n, 0), *[kinds(k) for k in range(7)])[1:]
            self.assertEqual([2 * n * number for [number] in got], kept)

    def test_where_somebody_is_lonely_no_turning_but_by_0(self):
        for n in SIZES:
            met = 0
            for counts in all_rings(n, 6):
                got = ask_of(counts, 0, lonely(), turns())
                if got[0] != [0]:
                    met += 1
                    self.assertEqual(got[1], [1], counts)
            self.assertGreater(met, 0)


class Ranks(unittest.TestCase):
    def test_alike_rings_have_the_same_rank(self):
        for n in SIZES:
            for counts in all_rings(n, 3):
                got = [ask_of(there, 0, rank()) for there in all_moved(counts)]
                self.assertEqual(got, [got[0]] * (2 * n), counts)


if __name__ == "__main__":
    unittest.main()
