"""seen, view, even, same and alike."""

import unittest

from tests.lines import TOP, alike, ask, ask_of, begin, even, eyes, ring, same, seen, turn, view


class Seen(unittest.TestCase):
    def test_from_p_on_by_rising_numbers(self):
        counts = [2, 1, 0, 3]
        self.assertEqual(ask_of(counts, 0, seen(0), seen(1), seen(3)),
                         [[4, 2, 1, 0, 3], [4, 1, 0, 3, 2], [4, 3, 2, 1, 0]])

    def test_through_the_eyes(self):
        counts = [2, 1, 0, 3]
        self.assertEqual(ask_of(counts, 1, seen(3)), [[4, 2, 2, 1, 0]])
        self.assertEqual(ask_of(counts, 2, seen(3)), [[4, 1, 1, 1, 0]])

    def test_eight_places(self):
        self.assertEqual(ask_of([1, 0, 0, 0, 2, 0, 0, 3], 0, seen(7)), [[8, 3, 1, 0, 0, 0, 2, 0, 0]])

    def test_not_the_lesser_row_but_the_rising_one(self):
        self.assertEqual(ask_of([1, 2, 0], 0, seen(0)), [[3, 1, 2, 0]])


class View(unittest.TestCase):
    def test_the_lesser_row_then_the_other(self):
        self.assertEqual(ask_of([1, 2, 0], 0, view(0)), [[6, 1, 0, 2, 1, 2, 0]])
        self.assertEqual(ask_of([1, 0, 2], 0, view(0)), [[6, 1, 0, 2, 1, 2, 0]])
        self.assertEqual(ask_of([2, 0, 1, 3], 0, view(0), view(3)),
                         [[8, 2, 0, 1, 3, 2, 3, 1, 0], [8, 3, 1, 0, 2, 3, 2, 0, 1]])

    def test_the_first_difference_alone_makes_the_lesser(self):
        self.assertEqual(ask_of([1, 1, 0, 2, 1], 0, view(0)), [[10, 1, 1, 0, 2, 1, 1, 1, 2, 0, 1]])

    def test_both_alike(self):
        self.assertEqual(ask_of([2, 1, 0, 1], 0, view(0)), [[8, 2, 1, 0, 1, 2, 1, 0, 1]])

    def test_eyes_change_which_row_is_the_lesser(self):
        counts = [1, 3, 0, 0, 2]
        self.assertEqual(ask_of(counts, 0, view(0)), [[10, 1, 2, 0, 0, 3, 1, 3, 0, 0, 2]])
        self.assertEqual(ask_of(counts, 1, view(0)), [[10, 1, 2, 0, 0, 2, 1, 2, 0, 0, 2]])
        self.assertEqual(ask_of(counts, 2, view(0)), [[10, 1, 1, 0, 0, 1, 1, 1, 0, 0, 1]])

    def test_all_at_one_place(self):
        self.assertEqual(ask_of([0, 6, 0], 0, view(1)), [[6, 6, 0, 0, 6, 0, 0]])
        self.assertEqual(ask_of([0, 6, 0], 1, view(1)), [[6, 2, 0, 0, 2, 0, 0]])
        self.assertEqual(ask_of([0, 6, 0], 2, view(1)), [[6, 1, 0, 0, 1, 0, 0]])

    def test_eight_places(self):
        self.assertEqual(ask_of([0, 1, 0, 0, 0, 0, 2, 3], 0, view(7)),
                         [[16, 3, 0, 1, 0, 0, 0, 0, 2, 3, 2, 0, 0, 0, 0, 1, 0]])


class Even(unittest.TestCase):
    def test_one_way_looks_like_the_other(self):
        self.assertEqual(ask_of([2, 1, 0, 1], 0, even(0), even(1), even(3)), [[1], [0], [0]])

    def test_one_robot(self):
        for n in range(3, 9):
            for e in range(3):
                self.assertEqual(ask_of([0, 1] + [0] * (n - 2), e, even(1)), [[1]])

    def test_all_at_one_place(self):
        self.assertEqual(ask_of([0, 0, 6], 0, even(2)), [[1]])

    def test_one_at_each_place(self):
        for n in range(3, 7):
            self.assertEqual(ask_of([1] * n, 0, *[even(p) for p in range(n)]), [[1]] * n)

    def test_two_across_from_each_other(self):
        self.assertEqual(ask_of([1, 0, 0, 1, 0, 0], 0, even(0), even(3)), [[1], [1]])
        self.assertEqual(ask_of([1, 0, 0, 0, 2, 0, 0, 0], 0, even(0), even(4)), [[1], [1]])

    def test_two_side_by_side(self):
        self.assertEqual(ask_of([1, 1, 0, 0], 0, even(0), even(1)), [[0], [0]])

    def test_the_axis_between_places(self):
        self.assertEqual(ask_of([1, 2, 2, 1], 0, *[even(p) for p in range(4)]), [[0]] * 4)

    def test_it_hangs_on_the_eyes(self):
        counts = [1, 1, 2]
        self.assertEqual(ask_of(counts, 0, even(0), eyes(1), even(0), eyes(2), even(0)), [[0], [0], [0], [1], [1]])
        counts = [1, 2, 3]
        self.assertEqual(ask_of(counts, 0, even(0), eyes(1), even(0), eyes(2), even(0)), [[0], [0], [1], [1], [1]])


class Same(unittest.TestCase):
    def test_with_oneself(self):
        self.assertEqual(ask_of([3, 2, 1, 0], 0, same(0, 0), same(1, 1), same(2, 2)), [[1], [1], [1]])

    def test_different_views(self):
        self.assertEqual(ask_of([2, 1, 0, 1], 0, same(0, 1), same(1, 0), same(1, 3)), [[0], [0], [1]])

    def test_turned_alone(self):
        counts = [1, 2, 0, 1, 2, 0]
        self.assertEqual(ask_of(counts, 0, same(0, 3), same(1, 4), same(0, 1), same(0, 4)), [[1], [1], [0], [0]])

    def test_mirrored_alone(self):
        self.assertEqual(ask_of([1, 2, 2, 1], 0, same(0, 3), same(1, 2), same(0, 1)), [[1], [1], [0]])
        self.assertEqual(ask_of([1, 0, 2, 1, 0], 0, same(0, 3), same(3, 0)), [[0], [0]])
        self.assertEqual(ask_of([1, 0, 2, 0, 1], 0, same(0, 4), same(4, 0)), [[1], [1]])

    def test_it_hangs_on_the_eyes(self):
        counts = [1, 2, 3]
        self.assertEqual(ask_of(counts, 0, same(1, 2), same(0, 1)), [[0], [0]])
        self.assertEqual(ask_of(counts, 1, same(1, 2), same(0, 1)), [[1], [0]])
        self.assertEqual(ask_of(counts, 2, same(1, 2), same(0, 1)), [[1], [1]])

    def test_two_across_from_each_other(self):
        self.assertEqual(ask_of([1, 0, 1, 0], 0, same(0, 2)), [[1]])
        self.assertEqual(ask_of([1, 0, 2, 0], 0, same(0, 2)), [[0]])
        self.assertEqual(ask_of([1, 0, 2, 0], 1, same(0, 2)), [[0]])
        self.assertEqual(ask_of([1, 0, 2, 0], 2, same(0, 2)), [[1]])


class Alike(unittest.TestCase):
    def test_rising_and_p_too(self):
        self.assertEqual(ask_of([1, 2, 2, 1], 0, alike(3), alike(2)), [[2, 0, 3], [2, 1, 2]])

    def test_one_robot(self):
        self.assertEqual(ask_of([0, 0, 1], 0, alike(2)), [[1, 2]])

    def test_all_at_one_place(self):
        self.assertEqual(ask_of([0, 6, 0], 0, alike(1)), [[1, 1]])

    def test_one_at_each_place(self):
        self.assertEqual(ask_of([1] * 6, 0, alike(4)), [[6, 0, 1, 2, 3, 4, 5]])

    def test_places_without_robots_are_not_among_them(self):
        self.assertEqual(ask_of([1, 0, 1, 0, 1, 0, 1, 0], 0, alike(6)), [[4, 0, 2, 4, 6]])

    def test_two_across_from_each_other(self):
        self.assertEqual(ask_of([0, 1, 0, 0, 0, 1, 0, 0], 0, alike(5), alike(1)), [[2, 1, 5], [2, 1, 5]])
        self.assertEqual(ask_of([0, 1, 0, 0, 0, 2, 0, 0], 0, alike(5), alike(1)), [[1, 5], [1, 1]])

    def test_eyes_that_see_no_difference(self):
        counts = [1, 2, 3]
        self.assertEqual(ask_of(counts, 0, alike(1)), [[1, 1]])
        self.assertEqual(ask_of(counts, 1, alike(1)), [[2, 1, 2]])
        self.assertEqual(ask_of(counts, 2, alike(1)), [[3, 0, 1, 2]])

    def test_on_a_ring_that_was_turned(self):
        self.assertEqual(ask_of([1, 2, 2, 1], 0, turn(1), alike(0), alike(2)), [[0], [2, 0, 1], [2, 2, 3]])


class Refusals(unittest.TestCase):
    def of_one_place(self, p):
        return (seen(p), view(p), even(p), alike(p))

    def test_no_such_place(self):
        for n in (3, 8):
            for p in (n, n + 1, 256, 2147483648, TOP):
                self.assertEqual(ask_of([1] + [0] * (n - 1), 0, *self.of_one_place(p)), [[-2]] * 4)

    def test_nobody_is_there(self):
        for e in range(3):
            self.assertEqual(ask_of([1, 0, 2], e, *self.of_one_place(1)), [[-33]] * 4)

    def test_no_robots(self):
        for n in range(3, 9):
            for p in (0, n - 1):
                self.assertEqual(ask(begin(n, 0), *self.of_one_place(p), same(p, p)), [[0]] + [[-33]] * 5)
            self.assertEqual(ask(begin(n, 0), *self.of_one_place(n), same(n, n)), [[0]] + [[-2]] * 5)

    def test_same_at_p_or_at_q(self):
        counts = [1, 0, 2]
        self.assertEqual(ask_of(counts, 0, same(0, 3), same(3, 0), same(3, 3), same(0, TOP), same(TOP, 0)), [[-2]] * 5)
        self.assertEqual(ask_of(counts, 0, same(0, 1), same(1, 0), same(1, 1)), [[-33]] * 3)

    def test_same_no_such_place_ahead_of_nobody_there(self):
        counts = [1, 0, 2]
        self.assertEqual(ask_of(counts, 0, same(1, 3), same(3, 1), same(1, TOP), same(TOP, 1)), [[-2]] * 4)

    def test_nothing_is_changed(self):
        counts = [1, 0, 2]
        calls = self.of_one_place(1) + self.of_one_place(3) + (same(0, 1), same(0, 3))
        self.assertEqual(ask_of(counts, 1, *calls, ring(), eyes(0))[-2:], [[3, 1, 0, 2], [1]])

    def test_looking_changes_nothing(self):
        counts = [3, 0, 2, 1]
        calls = self.of_one_place(0) + (same(0, 2),)
        self.assertEqual(ask_of(counts, 1, *calls, ring(), eyes(0))[-2:], [[4, 3, 0, 2, 1], [1]])


if __name__ == "__main__":
    unittest.main()
