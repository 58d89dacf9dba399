"""views, lonely and ifeyes."""

import unittest

from tests.lines import TOP, ask, ask_of, begin, eyes, ifeyes, lonely, mirror, put, ring, seen, told, turn, views


def at_each(e, counts):
    """What views and lonely answer with eyes e."""
    return ask_of(counts, e, views(), lonely())


class Views(unittest.TestCase):
    def test_how_many_different_ones(self):
        self.assertEqual(ask_of([2, 1, 0, 1], 0, views()), [[2]])
        self.assertEqual(ask_of([1, 1, 2, 0], 0, views()), [[3]])
        self.assertEqual(ask_of([1, 1, 1, 1, 1, 1, 0, 0], 0, views()), [[3]])

    def test_it_hangs_on_the_eyes(self):
        self.assertEqual(ask_of([1, 2, 3], 0, views(), eyes(1), views(), eyes(2), views()), [[3], [0], [2], [1], [1]])
        self.assertEqual(ask_of([1, 3, 0, 0, 2], 0, views(), eyes(1), views(), eyes(2), views()),
                         [[3], [0], [2], [1], [2]])

    def test_robots_at_one_place_have_one_view(self):
        for e in range(3):
            self.assertEqual(ask_of([0, 4, 0, 0], e, views()), [[1]])

    def test_nobody_sees_from_an_empty_place(self):
        for e in range(3):
            self.assertEqual(ask_of([0, 0, 1, 0, 1, 0, 0, 0], e, views()), [[1]])

    def test_no_robots(self):
        for n in range(3, 9):
            for e in range(3):
                self.assertEqual(ask(begin(n, e), views()), [[0], [0]])

    def test_one_robot(self):
        for n in range(3, 9):
            for e in range(3):
                self.assertEqual(ask(begin(n, e), put(n - 1, 1), views()), [[0], [0], [1]])

    def test_all_at_one_place(self):
        for e in range(3):
            self.assertEqual(ask_of([0, 0, 6], e, views()), [[1]])

    def test_one_at_each_place(self):
        for n in range(3, 7):
            for e in range(3):
                self.assertEqual(ask_of([1] * n, e, views()), [[1]])

    def test_two_across_from_each_other(self):
        for e in range(3):
            self.assertEqual(ask_of([0, 1, 0, 0, 1, 0], e, views()), [[1]])
        self.assertEqual(ask_of([0, 1, 0, 0, 2, 0], 0, views(), eyes(1), views(), eyes(2), views()),
                         [[2], [0], [2], [1], [1]])
        self.assertEqual(ask_of([0, 3, 0, 0, 2, 0], 0, views(), eyes(1), views(), eyes(2), views()),
                         [[2], [0], [1], [1], [1]])

    def test_its_own_mirror_with_the_axis_between_places(self):
        self.assertEqual(ask_of([1, 2, 2, 1], 0, views(), eyes(1), views(), eyes(2), views()),
                         [[2], [0], [2], [1], [1]])

    def test_turned_alone(self):
        counts = [1, 2, 0, 1, 2, 0]
        self.assertEqual(ask_of(counts, 0, views(), eyes(1), views(), eyes(2), views()), [[2], [0], [2], [1], [1]])

    def test_turned_or_mirrored_it_is_as_many(self):
        self.assertEqual(ask_of([2, 1, 0, 1], 0, turn(3), views(), mirror(2), views()), [[0], [2], [0], [2]])


class Lonely(unittest.TestCase):
    def test_somebody_whose_view_nobody_else_has(self):
        self.assertEqual(ask_of([1, 2, 3], 0, lonely()), [[1, 0]])
        self.assertEqual(ask_of([0, 2, 1, 2, 0], 0, lonely()), [[1, 2]])

    def test_rising(self):
        self.assertEqual(ask_of([1, 1, 2, 0], 0, lonely()), [[2, 0, 1]])
        self.assertEqual(ask_of([0, 1, 0, 0, 0, 2, 0, 1], 0, lonely()), [[2, 1, 7]])

    def test_somebody_elsewhere_has_the_same(self):
        self.assertEqual(ask_of([2, 1, 1], 0, lonely()), [[0]])
        self.assertEqual(ask_of([1, 2, 0, 1, 2, 0], 0, lonely()), [[0]])
        self.assertEqual(ask_of([1, 2, 2, 1], 0, lonely()), [[0]])

    def test_two_at_one_place_are_not_lonely(self):
        for x in range(2, 7):
            for e in range(3):
                self.assertEqual(at_each(e, [0, x, 0, 0]), [[1], [0]])

    def test_one_robot_is_told_by_the_ring_not_by_the_eyes(self):
        # With eyes 2 all three look like one robot each, and those at 0 and at 2 have the same view.
        self.assertEqual(at_each(2, [1, 1, 1, 0]), [[2], [1, 1]])
        self.assertEqual(at_each(2, [1, 2, 1, 0]), [[2], [0]])

    def test_more_than_one_elsewhere_who_look_like_one(self):
        self.assertEqual(ask_of([1, 1, 2, 0], 0, lonely(), eyes(1), lonely(), eyes(2), lonely()),
                         [[2, 0, 1], [0], [2, 0, 1], [1], [1, 1]])

    def test_it_hangs_on_the_eyes(self):
        self.assertEqual(ask_of([1, 2, 3], 0, lonely(), eyes(1), lonely(), eyes(2), lonely()),
                         [[1, 0], [0], [1, 0], [1], [0]])

    def test_no_robots(self):
        for n in range(3, 9):
            for e in range(3):
                self.assertEqual(ask(begin(n, e), lonely()), [[0], [0]])

    def test_one_robot(self):
        for n in range(3, 9):
            for e in range(3):
                self.assertEqual(ask(begin(n, e), put(n - 1, 1), lonely()), [[0], [0], [1, n - 1]])

    def test_all_at_one_place(self):
        for e in range(3):
            self.assertEqual(ask_of([6, 0, 0], e, lonely()), [[0]])

    def test_one_at_each_place(self):
        for n in range(3, 7):
            for e in range(3):
                self.assertEqual(ask_of([1] * n, e, lonely()), [[0]])

    def test_two_across_from_each_other(self):
        for e in range(3):
            self.assertEqual(ask_of([1, 0, 0, 0, 1, 0, 0, 0], e, lonely()), [[0]])
        self.assertEqual(ask_of([1, 0, 2, 0], 0, lonely(), eyes(1), lonely(), eyes(2), lonely()),
                         [[1, 0], [0], [1, 0], [1], [0]])

    def test_on_a_ring_that_was_turned(self):
        self.assertEqual(ask_of([1, 2, 3], 0, turn(1), lonely(), mirror(2), lonely()), [[0], [1, 2], [0], [1, 0]])


class IfEyes(unittest.TestCase):
    def test_views_then_places_without_their_count(self):
        for e in range(3):
            self.assertEqual(ask_of([1, 2, 3], e, ifeyes(0), ifeyes(1), ifeyes(2)), [[3, 0], [2, 0], [1]])
            self.assertEqual(ask_of([1, 1, 2, 0], e, ifeyes(0), ifeyes(1), ifeyes(2)), [[3, 0, 1], [3, 0, 1], [2, 1]])

    def test_the_eyes_stay(self):
        for e in range(3):
            for other in range(3):
                self.assertEqual(ask_of([3, 2, 1], e, ifeyes(other), eyes(e))[1], [e])

    def test_what_is_seen_afterwards_stays(self):
        self.assertEqual(ask_of([3, 2, 1], 1, ifeyes(0), seen(0), views(), lonely(), ifeyes(2), seen(0), told()),
                         [[3, 2], [3, 2, 2, 1], [2], [1, 2], [1], [3, 2, 2, 1], [3, 1, 6, 3]])

    def test_as_views_and_lonely_tell(self):
        for e in range(3):
            for counts in ([1, 2, 3, 0], [1, 1, 2, 0, 0], [2, 1, 0, 1, 0, 0], [0] * 8, [1, 1, 1, 0, 0, 0, 3]):
                made = at_each(e, counts)
                self.assertEqual(ask_of(counts, (e + 1) % 3, ifeyes(e)), [made[0] + made[1][1:]])

    def test_corners(self):
        for e in range(3):
            for n in range(3, 9):
                self.assertEqual(ask(begin(n, 0), ifeyes(e)), [[0], [0]])
                self.assertEqual(ask(begin(n, 0), put(1, 1), ifeyes(e)), [[0], [0], [1, 1]])
                self.assertEqual(ask(begin(n, 0), put(1, 6), ifeyes(e)), [[0], [0], [1]])

    def test_no_such_eyes(self):
        for e in (3, 4, 256, 2147483648, TOP):
            self.assertEqual(ask_of([1, 2, 3], 1, ifeyes(e), ring(), eyes(0)), [[-22], [3, 1, 2, 3], [1]])
            self.assertEqual(ask(begin(3, 0), ifeyes(e)), [[0], [-22]])


if __name__ == "__main__":
    unittest.main()
