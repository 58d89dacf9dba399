"""name, turns, mirrors, axis, kinds, nth and rank."""

import unittest

from tests.lines import (TOP, ask, ask_of, axis, begin, eyes, kinds, mirror, mirrors, name, nth, put, rank, ring, told,
                         turn, turns)

# How many names there are of no robots, of one, and so on: those of three places are the ways
# to part so many into three at most; the others are counts of bracelets.
KINDS = {
    3: [1, 1, 2, 3, 4, 5, 7],
    4: [1, 1, 3, 4, 8, 10, 16],
    5: [1, 1, 3, 5, 10, 16, 26],
    6: [1, 1, 4, 7, 16, 26, 50],
    7: [1, 1, 4, 8, 20, 38, 76],
    8: [1, 1, 5, 10, 29, 57, 126],
}


class Name(unittest.TestCase):
    def test_the_lesser_number_where_two_first_differ(self):
        self.assertEqual(ask_of([3, 2, 1, 0], 0, name()), [[4, 0, 1, 2, 3]])
        self.assertEqual(ask_of([2, 1, 1], 0, name()), [[3, 1, 1, 2]])
        self.assertEqual(ask_of([0, 2, 0, 1, 1], 0, name()), [[5, 0, 1, 1, 0, 2]])
        self.assertEqual(ask_of([0, 2, 0, 1], 0, name()), [[4, 0, 1, 0, 2]])

    def test_turned_is_enough(self):
        self.assertEqual(ask_of([2, 3, 0, 1], 0, name()), [[4, 0, 1, 2, 3]])

    def test_mirrored_is_needed(self):
        self.assertEqual(ask_of([1, 0, 3, 2], 0, name()), [[4, 0, 1, 2, 3]])
        self.assertEqual(ask_of([0, 3, 2, 1], 0, name()), [[4, 0, 1, 2, 3]])

    def test_is_its_own_name(self):
        self.assertEqual(ask_of([0, 0, 1, 0, 2], 0, name()), [[5, 0, 0, 1, 0, 2]])

    def test_as_many_robots_otherwise_have_another(self):
        self.assertEqual(ask_of([1, 1, 0, 0], 0, name()), [[4, 0, 0, 1, 1]])
        self.assertEqual(ask_of([1, 0, 1, 0], 0, name()), [[4, 0, 1, 0, 1]])

    def test_the_ring_stays(self):
        self.assertEqual(ask_of([3, 2, 1, 0], 1, name(), ring(), told()),
                         [[4, 0, 1, 2, 3], [4, 3, 2, 1, 0], [4, 1, 6, 3]])

    def test_it_goes_by_robots_whatever_the_eyes(self):
        for e in range(3):
            self.assertEqual(ask_of([3, 2, 1, 0], e, name()), [[4, 0, 1, 2, 3]])
            self.assertEqual(ask_of([1, 5, 0], e, name()), [[3, 0, 1, 5]])

    def test_corners(self):
        for n in range(3, 9):
            self.assertEqual(ask(begin(n, 0), name()), [[0], [n] + [0] * n])
            self.assertEqual(ask(begin(n, 0), put(0, 1), name())[2], [n] + [0] * (n - 1) + [1])
            self.assertEqual(ask(begin(n, 0), put(1, 6), name())[2], [n] + [0] * (n - 1) + [6])
        for n in range(3, 7):
            self.assertEqual(ask_of([1] * n, 0, name()), [[n] + [1] * n])
        self.assertEqual(ask_of([0, 2, 0, 0, 1, 0], 0, name()), [[6, 0, 0, 1, 0, 0, 2]])
        self.assertEqual(ask_of([2, 2, 1, 1], 0, name()), [[4, 1, 1, 2, 2]])


class Turns(unittest.TestCase):
    def test_by_0_alone(self):
        self.assertEqual(ask_of([1, 2, 3], 0, turns()), [[1]])
        self.assertEqual(ask_of([1, 2, 2, 1], 0, turns()), [[1]])

    def test_by_more(self):
        self.assertEqual(ask_of([1, 0, 1, 0], 0, turns()), [[2]])
        self.assertEqual(ask_of([1, 2, 0, 1, 2, 0], 0, turns()), [[2]])
        self.assertEqual(ask_of([0, 2, 0, 2, 0, 2], 0, turns()), [[3]])
        self.assertEqual(ask_of([0, 1, 0, 1, 0, 1, 0, 1], 0, turns()), [[4]])

    def test_it_goes_by_robots_whatever_the_eyes(self):
        for e in range(3):
            self.assertEqual(ask_of([1, 0, 2, 0], e, turns()), [[1]])
            self.assertEqual(ask_of([1, 2, 3], e, turns()), [[1]])
            self.assertEqual(ask_of([2, 0, 3, 0], e, turns()), [[1]])

    def test_corners(self):
        for n in range(3, 9):
            self.assertEqual(ask(begin(n, 0), turns(), put(1, 1), turns(), put(1, 6), turns()),
                             [[0], [n], [0], [1], [1], [1]])
        for n in range(3, 7):
            self.assertEqual(ask_of([1] * n, 0, turns()), [[n]])
        self.assertEqual(ask_of([2, 2, 2], 0, turns()), [[3]])
        self.assertEqual(ask_of([0, 1, 0, 0, 1, 0], 0, turns()), [[2]])
        self.assertEqual(ask_of([0, 1, 0, 0, 2, 0], 0, turns()), [[1]])


class Mirrors(unittest.TestCase):
    def test_none(self):
        self.assertEqual(ask_of([1, 2, 3], 0, mirrors()), [[0]])
        self.assertEqual(ask_of([1, 2, 0, 1, 2, 0], 0, mirrors()), [[0]])

    def test_one(self):
        self.assertEqual(ask_of([2, 1, 0, 1], 0, mirrors()), [[1]])
        self.assertEqual(ask_of([1, 2, 2, 1], 0, mirrors()), [[1]])
        self.assertEqual(ask_of([1, 2, 1], 0, mirrors()), [[1]])

    def test_more(self):
        self.assertEqual(ask_of([1, 0, 1, 0], 0, mirrors()), [[2]])
        self.assertEqual(ask_of([1, 0, 0, 1, 0, 0], 0, mirrors()), [[2]])
        self.assertEqual(ask_of([0, 2, 0, 2, 0, 2], 0, mirrors()), [[3]])

    def test_it_goes_by_robots_whatever_the_eyes(self):
        for e in range(3):
            self.assertEqual(ask_of([1, 2, 3], e, mirrors()), [[0]])
            self.assertEqual(ask_of([2, 0, 0, 3, 1], e, mirrors()), [[0]])

    def test_corners(self):
        for n in range(3, 9):
            self.assertEqual(ask(begin(n, 0), mirrors(), put(1, 1), mirrors(), put(1, 6), mirrors()),
                             [[0], [n], [0], [1], [1], [1]])
        for n in range(3, 7):
            self.assertEqual(ask_of([1] * n, 0, mirrors()), [[n]])
        self.assertEqual(ask_of([0, 1, 0, 0, 2, 0], 0, mirrors()), [[1]])


class Axis(unittest.TestCase):
    def test_through_two_places(self):
        self.assertEqual(ask_of([2, 1, 0, 1], 0, axis()), [[2, 0, 2]])
        self.assertEqual(ask_of([1, 2, 1, 0], 0, axis()), [[2, 1, 3]])

    def test_through_one_place(self):
        self.assertEqual(ask_of([1, 2, 1], 0, axis()), [[1, 1]])
        self.assertEqual(ask_of([0, 1, 0, 0, 1], 0, axis()), [[1, 0]])
        self.assertEqual(ask_of([1, 0, 0, 1, 0, 0, 0], 0, axis()), [[1, 5]])

    def test_between_places(self):
        self.assertEqual(ask_of([1, 2, 2, 1], 0, mirrors(), axis()), [[1], [0]])
        self.assertEqual(ask_of([1, 1, 0, 0], 0, mirrors(), axis()), [[1], [0]])
        self.assertEqual(ask_of([0, 1, 2, 2, 1, 0, 0, 0], 0, mirrors(), axis()), [[1], [0]])

    def test_one_axis_through_places_and_one_between(self):
        self.assertEqual(ask_of([1, 0, 0, 1, 0, 0], 0, mirrors(), axis()), [[2], [2, 0, 3]])

    def test_more_axes(self):
        self.assertEqual(ask_of([1, 0, 1, 0], 0, axis()), [[4, 0, 1, 2, 3]])
        self.assertEqual(ask_of([1, 1, 0, 0, 1, 1, 0, 0], 0, mirrors(), axis()), [[2], [0]])

    def test_none(self):
        self.assertEqual(ask_of([1, 2, 3], 0, axis()), [[0]])
        self.assertEqual(ask_of([1, 2, 0, 1, 2, 0], 0, axis()), [[0]])

    def test_it_goes_by_robots_whatever_the_eyes(self):
        for e in range(3):
            self.assertEqual(ask_of([1, 2, 3], e, axis()), [[0]])
            self.assertEqual(ask_of([2, 1, 3, 0], e, axis()), [[0]])
            self.assertEqual(ask_of([2, 1, 0, 1], e, axis()), [[2, 0, 2]])

    def test_it_is_turned_with_the_ring(self):
        self.assertEqual(ask_of([2, 1, 0, 1], 0, turn(1), axis()), [[0], [2, 1, 3]])
        self.assertEqual(ask_of([1, 2, 1], 0, turn(1), axis(), turn(2), axis()), [[0], [1, 0], [0], [1, 1]])

    def test_corners(self):
        for n in range(3, 9):
            self.assertEqual(ask(begin(n, 0), axis()), [[0], [n] + list(range(n))])
            across = [1] if n % 2 else [1, 1 + n // 2]
            for x in (1, 6):
                self.assertEqual(ask(begin(n, 0), put(1, x), axis())[2], [len(across)] + across)
        for n in range(3, 7):
            self.assertEqual(ask_of([1] * n, 0, axis()), [[n] + list(range(n))])
        self.assertEqual(ask_of([0, 1, 0, 0, 2, 0], 0, axis()), [[2, 1, 4]])


class Kinds(unittest.TestCase):
    def test_how_many_names(self):
        for n, numbers in KINDS.items():
            self.assertEqual(ask(begin(n, 0), *[kinds(k) for k in range(7)]), [[0]] + [[x] for x in numbers])

    def test_robots_and_eyes_of_the_ring_do_not_matter(self):
        for e in range(3):
            self.assertEqual(ask_of([1, 2, 3, 0], e, kinds(0), kinds(2), kinds(6), turn(1), kinds(4)),
                             [[1], [3], [16], [0], [8]])

    def test_places_do(self):
        self.assertEqual(ask(begin(3, 0), kinds(6), begin(8, 0), kinds(6), begin(2, 0), kinds(6)),
                         [[0], [7], [0], [126], [-22], [126]])

    def test_too_many_robots(self):
        for n in (3, 8):
            for k in (7, 8, 256, 2147483648, TOP):
                self.assertEqual(ask(begin(n, 0), kinds(k), kinds(6)), [[0], [-22], [KINDS[n][6]]])

    def test_nothing_is_changed(self):
        self.assertEqual(ask_of([1, 2, 3], 1, kinds(6), kinds(7), kinds(0), ring(), told()),
                         [[7], [-22], [1], [3, 1, 2, 3], [3, 1, 6, 3]])


class Nth(unittest.TestCase):
    def test_in_order(self):
        self.assertEqual(ask(begin(3, 0), *[nth(6, i) for i in range(7)])[1:],
                         [[3, 0, 0, 6], [3, 0, 1, 5], [3, 0, 2, 4], [3, 0, 3, 3], [3, 1, 1, 4], [3, 1, 2, 3],
                          [3, 2, 2, 2]])
        self.assertEqual(ask(begin(4, 0), *[nth(2, i) for i in range(3)])[1:],
                         [[4, 0, 0, 0, 2], [4, 0, 0, 1, 1], [4, 0, 1, 0, 1]])
        self.assertEqual(ask(begin(6, 0), *[nth(3, i) for i in range(7)])[1:],
                         [[6, 0, 0, 0, 0, 0, 3], [6, 0, 0, 0, 0, 1, 2], [6, 0, 0, 0, 1, 0, 2], [6, 0, 0, 0, 1, 1, 1],
                          [6, 0, 0, 1, 0, 0, 2], [6, 0, 0, 1, 0, 1, 1], [6, 0, 1, 0, 1, 0, 1]])

    def test_names_of_no_robots(self):
        for n in range(3, 9):
            self.assertEqual(ask(begin(n, 0), nth(0, 0), nth(0, 1), nth(0, TOP)), [[0], [n] + [0] * n, [-33], [-33]])

    def test_names_of_one_robot(self):
        for n in range(3, 9):
            self.assertEqual(ask(begin(n, 0), nth(1, 0), nth(1, 1)), [[0], [n] + [0] * (n - 1) + [1], [-33]])

    def test_the_first_name(self):
        for n in range(3, 9):
            for k in range(7):
                self.assertEqual(ask(begin(n, 0), nth(k, 0)), [[0], [n] + [0] * (n - 1) + [k]])

    def test_the_last_name(self):
        for n, numbers in KINDS.items():
            for k, number in enumerate(numbers):
                got = ask(begin(n, 0), nth(k, number - 1), nth(k, number))
                self.assertEqual((got[1][0], sum(got[1][1:]), got[2]), (n, k, [-33]))
        self.assertEqual(ask(begin(3, 0), nth(6, 6), begin(6, 0), nth(6, 49), begin(5, 0), nth(5, 15)),
                         [[0], [3, 2, 2, 2], [0], [6, 1, 1, 1, 1, 1, 1], [0], [5, 1, 1, 1, 1, 1]])

    def test_no_such_name(self):
        for n, numbers in KINDS.items():
            for i in (0, 1, 256, 2147483648, TOP - numbers[3]):
                self.assertEqual(ask(begin(n, 0), nth(3, numbers[3] + i)), [[0], [-33]])

    def test_too_many_robots_ahead_of_no_such_name(self):
        for k in (7, 8, 256, 2147483648, TOP):
            self.assertEqual(ask(begin(8, 0), nth(k, 0), nth(k, 126), nth(k, TOP)), [[0], [-22], [-22], [-22]])

    def test_robots_and_eyes_of_the_ring_do_not_matter(self):
        for e in range(3):
            self.assertEqual(ask_of([1, 2, 3], e, nth(3, 1), nth(0, 0), nth(6, 6)),
                             [[3, 0, 1, 2], [3, 0, 0, 0], [3, 2, 2, 2]])

    def test_nothing_is_changed(self):
        self.assertEqual(ask_of([1, 2, 3], 1, nth(3, 1), nth(3, 3), nth(7, 0), ring(), told()),
                         [[3, 0, 1, 2], [-33], [-22], [3, 1, 2, 3], [3, 1, 6, 3]])


class Rank(unittest.TestCase):
    def test_where_the_name_stands_then_how_many_robots(self):
        self.assertEqual(ask_of([3, 1, 2], 0, rank()), [[5, 6]])
        self.assertEqual(ask_of([6, 0, 0], 0, rank()), [[0, 6]])
        self.assertEqual(ask_of([1, 4, 1], 0, rank()), [[4, 6]])
        self.assertEqual(ask_of([1, 0, 1, 0], 0, rank()), [[2, 2]])
        self.assertEqual(ask_of([0, 1, 0, 2, 0, 0], 0, rank()), [[2, 3]])

    def test_turned_or_mirrored_it_stays(self):
        self.assertEqual(ask_of([0, 1, 5], 0, rank(), turn(1), rank(), mirror(0), rank()),
                         [[1, 6], [0], [1, 6], [0], [1, 6]])

    def test_it_goes_by_robots_whatever_the_eyes(self):
        for e in range(3):
            self.assertEqual(ask_of([3, 1, 2], e, rank(), eyes(0), rank()), [[5, 6], [e], [5, 6]])

    def test_among_names_of_as_many_robots_alone(self):
        self.assertEqual(ask_of([1, 1, 1], 0, rank(), put(0, 2), rank(), put(0, 3), rank(), put(0, 4), rank()),
                         [[2, 3], [1], [3, 4], [2], [3, 5], [3], [4, 6]])

    def test_corners(self):
        for n in range(3, 9):
            self.assertEqual(ask(begin(n, 0), rank(), put(1, 1), rank(), put(1, 6), rank()),
                             [[0], [0, 0], [0], [0, 1], [1], [0, 6]])
        for n in range(3, 7):
            self.assertEqual(ask_of([1] * n, 0, rank()), [[KINDS[n][n] - 1, n]])
        self.assertEqual(ask_of([0, 1, 0, 0, 1, 0], 0, rank()), [[3, 2]])

    def test_nothing_is_changed(self):
        self.assertEqual(ask_of([3, 1, 2], 1, rank(), ring(), told()), [[5, 6], [3, 3, 1, 2], [3, 1, 6, 3]])


if __name__ == "__main__":
    unittest.main()
