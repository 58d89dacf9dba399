"""put, eyes, turn, mirror, ring and told."""

import unittest

from tests.lines import TOP, ask, ask_of, begin, eyes, mirror, put, ring, seen, told, turn


class Put(unittest.TestCase):
    def test_answers_how_many_there_were(self):
        got = ask(begin(3, 0), put(1, 2), put(1, 5), put(1, 0), put(1, 1), ring())
        self.assertEqual(got, [[0], [0], [2], [5], [0], [3, 0, 1, 0]])

    def test_x_is_how_many_are_there_then_not_how_many_come(self):
        self.assertEqual(ask(begin(3, 0), put(0, 4), put(0, 4), ring()), [[0], [0], [4], [3, 4, 0, 0]])

    def test_the_first_and_the_last_place(self):
        self.assertEqual(ask(begin(8, 0), put(0, 1), put(7, 2), ring()), [[0], [0], [0], [8, 1, 0, 0, 0, 0, 0, 0, 2]])
        self.assertEqual(ask(begin(3, 0), put(0, 1), put(2, 2), ring()), [[0], [0], [0], [3, 1, 0, 2]])

    def test_answers_robots_whatever_the_eyes_tell(self):
        for e in range(3):
            self.assertEqual(ask(begin(3, e), put(0, 5), put(0, 6)), [[0], [0], [5]])

    def test_all_six_at_one_place(self):
        self.assertEqual(ask(begin(3, 0), put(2, 6), put(2, 6), ring()), [[0], [0], [6], [3, 0, 0, 6]])

    def test_nobody_put_where_nobody_is(self):
        self.assertEqual(ask(begin(3, 0), put(2, 0), ring()), [[0], [0], [3, 0, 0, 0]])

    def test_no_such_place(self):
        for n in (3, 8):
            for p in (n, n + 1, 256, 2147483648, TOP):
                self.assertEqual(ask(begin(n, 0), put(p, 0)), [[0], [-2]])

    def test_too_great_a_number(self):
        for x in (7, 8, 256, 2147483648, TOP):
            self.assertEqual(ask(begin(3, 0), put(0, x)), [[0], [-22]])

    def test_more_than_six_altogether(self):
        self.assertEqual(ask(begin(3, 0), put(0, 6), put(1, 1)), [[0], [0], [-28]])
        self.assertEqual(ask(begin(3, 0), put(0, 1), put(1, 6)), [[0], [0], [-28]])
        self.assertEqual(ask(begin(3, 0), put(0, 3), put(1, 3), put(2, 0), put(0, 4)), [[0], [0], [0], [0], [-28]])

    def test_six_altogether_are_not_too_many(self):
        self.assertEqual(ask(begin(3, 0), put(0, 3), put(1, 2), put(2, 1), put(0, 3)), [[0], [0], [0], [0], [3]])

    def test_those_that_were_there_do_not_count(self):
        self.assertEqual(ask(begin(3, 0), put(0, 4), put(1, 2), put(0, 3), put(1, 3)), [[0], [0], [0], [4], [2]])

    def test_the_first_refusal_that_is_due(self):
        full = [6, 0, 0]
        self.assertEqual(ask_of(full, 0, put(3, 7)), [[-2]])
        self.assertEqual(ask_of(full, 0, put(3, 1)), [[-2]])
        self.assertEqual(ask_of(full, 0, put(TOP, TOP)), [[-2]])
        self.assertEqual(ask_of(full, 0, put(1, 7)), [[-22]])
        self.assertEqual(ask_of(full, 0, put(1, TOP)), [[-22]])
        self.assertEqual(ask_of(full, 0, put(1, 6)), [[-28]])

    def test_refused_it_changes_nothing(self):
        self.assertEqual(ask_of([1, 5, 0], 0, put(3, 0), put(1, 7), put(0, 2), ring()),
                         [[-2], [-22], [-28], [3, 1, 5, 0]])


class Eyes(unittest.TestCase):
    def test_answers_which_there_were(self):
        self.assertEqual(ask(begin(3, 2), eyes(0), eyes(1), eyes(1), eyes(2), eyes(0)),
                         [[0], [2], [0], [1], [1], [2]])

    def test_what_each_tells(self):
        counts = [3, 0, 1, 2]
        got = ask_of(counts, 0, seen(0), eyes(1), seen(0), eyes(2), seen(0), eyes(0), seen(0), ring())
        self.assertEqual(got, [[4, 3, 0, 1, 2], [0], [4, 2, 0, 1, 2], [1], [4, 1, 0, 1, 1], [2], [4, 3, 0, 1, 2],
                               [4, 3, 0, 1, 2]])

    def test_each_number_of_robots(self):
        for x in range(1, 7):
            self.assertEqual(ask_of([x, 0, 0], 0, seen(0)), [[3, x, 0, 0]])
            self.assertEqual(ask_of([x, 0, 0], 1, seen(0)), [[3, 1 if x == 1 else 2, 0, 0]])
            self.assertEqual(ask_of([x, 0, 0], 2, seen(0)), [[3, 1, 0, 0]])

    def test_no_such_eyes(self):
        for e in (3, 4, 256, 2147483648, TOP):
            self.assertEqual(ask(begin(3, 1), eyes(e), eyes(0)), [[0], [-22], [1]])


class Turn(unittest.TestCase):
    def test_place_0_has_what_was_at_s(self):
        self.assertEqual(ask_of([3, 2, 1, 0], 0, turn(1), ring()), [[0], [4, 2, 1, 0, 3]])
        self.assertEqual(ask_of([3, 2, 1, 0], 0, turn(2), ring()), [[0], [4, 1, 0, 3, 2]])

    def test_by_0(self):
        self.assertEqual(ask_of([1, 2, 3], 0, turn(0), ring()), [[0], [3, 1, 2, 3]])

    def test_by_the_last_place(self):
        self.assertEqual(ask_of([1, 2, 3], 0, turn(2), ring()), [[0], [3, 3, 1, 2]])
        self.assertEqual(ask_of([1, 2, 3, 0, 0, 0, 0, 0], 0, turn(7), ring()), [[0], [8, 0, 1, 2, 3, 0, 0, 0, 0]])

    def test_without_robots(self):
        self.assertEqual(ask(begin(3, 0), turn(2), ring()), [[0], [0], [3, 0, 0, 0]])

    def test_turns_robots_not_what_eyes_tell(self):
        for e in range(3):
            self.assertEqual(ask_of([4, 2, 0], e, turn(1), ring(), eyes(0)), [[0], [3, 2, 0, 4], [e]])

    def test_no_such_place(self):
        for n in (3, 8):
            for s in (n, n + 1, 2 * n, 2147483648, TOP):
                counts = [1, 2] + [0] * (n - 2)
                self.assertEqual(ask_of(counts, 0, turn(s), ring()), [[-2], [n] + counts])

    def test_where_nobody_is(self):
        self.assertEqual(ask_of([1, 0, 2], 0, turn(1), ring()), [[0], [3, 0, 2, 1]])

    def test_robots_that_are_put_afterwards(self):
        self.assertEqual(ask_of([1, 2, 0], 0, turn(1), put(0, 3), ring()), [[0], [2], [3, 3, 0, 1]])


class Mirror(unittest.TestCase):
    def test_place_0_has_what_was_at_s_and_1_what_was_before_it(self):
        self.assertEqual(ask_of([3, 2, 1, 0], 0, mirror(1), ring()), [[0], [4, 2, 3, 0, 1]])
        self.assertEqual(ask_of([3, 2, 1, 0], 0, mirror(2), ring()), [[0], [4, 1, 2, 3, 0]])

    def test_at_0(self):
        self.assertEqual(ask_of([1, 2, 3], 0, mirror(0), ring()), [[0], [3, 1, 3, 2]])

    def test_at_the_last_place(self):
        self.assertEqual(ask_of([1, 2, 3], 0, mirror(2), ring()), [[0], [3, 3, 2, 1]])
        self.assertEqual(ask_of([1, 2, 3, 0, 0, 0, 0, 0], 0, mirror(7), ring()), [[0], [8, 0, 0, 0, 0, 0, 3, 2, 1]])

    def test_twice_at_the_same_place(self):
        for s in range(5):
            self.assertEqual(ask_of([1, 2, 3, 0, 0], 0, mirror(s), mirror(s), ring()), [[0], [0], [5, 1, 2, 3, 0, 0]])

    def test_its_own_mirror_with_the_axis_between_places(self):
        self.assertEqual(ask_of([1, 2, 2, 1], 0, mirror(3), ring()), [[0], [4, 1, 2, 2, 1]])
        self.assertEqual(ask_of([1, 2, 2, 1], 0, mirror(1), ring()), [[0], [4, 2, 1, 1, 2]])

    def test_without_robots(self):
        self.assertEqual(ask(begin(3, 0), mirror(2), ring()), [[0], [0], [3, 0, 0, 0]])

    def test_mirrors_robots_not_what_eyes_tell(self):
        for e in range(3):
            self.assertEqual(ask_of([4, 2, 0], e, mirror(0), ring(), eyes(0)), [[0], [3, 4, 0, 2], [e]])

    def test_no_such_place(self):
        for n in (3, 8):
            for s in (n, n + 1, 2 * n, 2147483648, TOP):
                counts = [1, 2] + [0] * (n - 2)
                self.assertEqual(ask_of(counts, 0, mirror(s), ring()), [[-2], [n] + counts])

    def test_where_nobody_is(self):
        self.assertEqual(ask_of([1, 0, 2], 0, mirror(1), ring()), [[0], [3, 0, 1, 2]])


class Ring(unittest.TestCase):
    def test_no_robots(self):
        self.assertEqual(ask(begin(3, 0), ring()), [[0], [3, 0, 0, 0]])
        self.assertEqual(ask(begin(8, 0), ring()), [[0], [8, 0, 0, 0, 0, 0, 0, 0, 0]])

    def test_tells_robots_whatever_the_eyes(self):
        for e in range(3):
            self.assertEqual(ask_of([3, 1, 2, 0], e, ring()), [[4, 3, 1, 2, 0]])

    def test_one_at_each_place(self):
        self.assertEqual(ask_of([1] * 6, 0, ring()), [[6, 1, 1, 1, 1, 1, 1]])

    def test_an_earlier_answer_stays(self):
        self.assertEqual(ask_of([1, 0, 0], 0, ring(), put(0, 4), ring()), [[3, 1, 0, 0], [1], [3, 4, 0, 0]])


class Told(unittest.TestCase):
    def test_places_eyes_robots_and_places_with_any(self):
        self.assertEqual(ask_of([3, 0, 1, 2], 1, told()), [[4, 1, 6, 3]])
        self.assertEqual(ask_of([0, 0, 0, 0, 2, 0, 0, 1], 2, told()), [[8, 2, 3, 2]])

    def test_each_eyes(self):
        for e in range(3):
            self.assertEqual(ask_of([2, 3, 0], e, told()), [[3, e, 5, 2]])

    def test_after_each_change(self):
        changes = (begin(5, 0), put(4, 2), put(1, 1), eyes(2), turn(3), mirror(2), put(1, 0), begin(3, 1))
        got = ask(*[call for change in changes for call in (change, told())])
        self.assertEqual(got[1::2], [[5, 0, 0, 0], [5, 0, 2, 1], [5, 0, 3, 2], [5, 2, 3, 2], [5, 2, 3, 2], [5, 2, 3, 2],
                                     [5, 2, 1, 1], [3, 1, 0, 0]])

    def test_after_what_was_refused(self):
        self.assertEqual(ask_of([1, 2, 3], 1, put(3, 0), put(0, 7), put(0, 2), eyes(3), turn(3), mirror(3), begin(9, 0),
                                told()),
                         [[-2], [-22], [-28], [-22], [-2], [-2], [-22], [3, 1, 6, 3]])

    def test_corners(self):
        for n in range(3, 9):
            self.assertEqual(ask(begin(n, 2), told(), put(0, 1), told(), put(0, 6), told()),
                             [[0], [n, 2, 0, 0], [0], [n, 2, 1, 1], [1], [n, 2, 6, 1]])
        for n in range(3, 7):
            self.assertEqual(ask_of([1] * n, 0, told()), [[n, 0, n, n]])


if __name__ == "__main__":
    unittest.main()
