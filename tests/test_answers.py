"""How calls are handed in and answers given back; what begin and a new object promise."""

import copy
import unittest

import robotviews.rings
from robotviews.rings import answers
from tests.lines import (TOP, alike, ask, axis, begin, even, eyes, ifeyes, kinds, lonely, mirror, mirrors, name, nth,
                         put, rank, ring, same, seen, told, turn, turns, view, views)


class Layout(unittest.TestCase):
    def test_each_answer_has_its_count_in_front(self):
        calls = [0, 4, 0, 1, 0, 2, 1, 1, 1, 5, 6, 0, 7, 0, 8, 0, 9, 0, 1, 10, 0, 2, 1, 3, 1, 4, 0, 5]
        wanted = [
            1, 0,
            1, 0,
            1, 0,
            5, 4, 2, 1, 0, 0,
            5, 4, 2, 1, 0, 0,
            9, 8, 2, 0, 0, 1, 2, 1, 0, 0,
            1, 0,
            1, 0,
            2, 1, 0,
            1, 0,
            1, 0,
            1, 0,
            5, 4, 1, 2, 0, 0,
        ]
        self.assertEqual(answers(calls), wanted)

    def test_each_later_answer_has_its_count_in_front(self):
        calls = [0, 4, 0, 1, 0, 2, 1, 1, 1, 11, 12, 13, 14, 15, 16, 17, 3, 18, 3, 2, 19, 20, 2, 21]
        wanted = [
            1, 0,
            1, 0,
            1, 0,
            1, 2,
            2, 1, 1,
            5, 4, 0, 0, 1, 2,
            1, 1,
            1, 0,
            1, 0,
            1, 4,
            5, 4, 0, 1, 0, 2,
            2, 1, 3,
            1, 1,
            4, 4, 0, 3, 2,
        ]
        self.assertEqual(answers(calls), wanted)

    def test_one_call_alone(self):
        self.assertEqual(answers([0, 3, 2]), [1, 0])
        self.assertEqual(answers([5]), [1, -11])

    def test_a_refusal_is_its_number_alone(self):
        self.assertEqual(answers([0, 3, 0, 6, 3, 7, 0, 10, 9, 5]), [1, 0, 1, -2, 1, -33, 1, -2, 4, 3, 0, 0, 0])
        self.assertEqual(answers([0, 3, 0, 17, 7, 18, 7, 9, 18, 2, 9, 20, 3, 21]),
                         [1, 0, 1, -22, 1, -22, 1, -33, 1, -22, 4, 3, 0, 0, 0])

    def test_fifty_calls(self):
        calls = [begin(8, 0)] + [put(k % 8, 1 if k < 6 else 0) for k in range(49)]
        got = ask(*calls)
        self.assertEqual(got[:7], [[0]] * 7)
        self.assertEqual(got[7:15], [[0], [0], [1], [1], [1], [1], [1], [1]])
        self.assertEqual(got[15:], [[0]] * 35)

    def test_fifty_calls_of_three_numbers(self):
        calls = [0, 8, 0, 1, 0, 1] + [9, 0, 0] * 48
        self.assertEqual(len(calls), 150)
        self.assertEqual(answers(calls), [1, 0, 1, 0] + [1, 1] * 48)

    def test_fifty_of_the_longest(self):
        calls = [0, 8, 0, 1, 1, 6] + [18, 6, 125] * 47 + [19]
        self.assertEqual(answers(calls), [1, 0, 1, 0] + [9, 8, 0, 1, 1, 1, 0, 1, 1, 1] * 47 + [2, 0, 6])

    def test_gives_back_a_list_of_whole_numbers(self):
        lines = ([0, 4, 0, 1, 0, 2, 8, 0, 9, 0, 0, 7, 0, 10, 0, 5, 6, 1],
                 [0, 4, 0, 1, 0, 2, 11, 12, 13, 14, 15, 16, 17, 3, 18, 3, 1, 19, 20, 1, 21])
        for calls in lines:
            got = answers(calls)
            self.assertIs(type(got), list)
            for number in got:
                self.assertIs(type(number), int)

    def test_package_has_the_named_function(self):
        self.assertIs(robotviews.rings.answers, answers)


class NothingKept(unittest.TestCase):
    LINES = (
        [0, 5, 1, 1, 0, 3, 3, 2, 4, 4, 5, 2, 0, 7, 1, 10, 1],
        [0, 9, 0, 5, 0, 3, 0, 1, 0, 7, 1, 0, 6, 5],
        [5, 1, 0, 1],
        [0, 5, 1, 1, 0, 3, 1, 2, 1, 11, 12, 13, 14, 15, 16, 17, 4, 18, 4, 2, 19, 20, 0, 21, 5],
        [21, 0, 8, 2, 20, 0, 18, 6, 125, 18, 6, 126, 17, 7, 19, 13],
    )

    def test_what_is_handed_in_is_as_it_was(self):
        for calls in self.LINES:
            before = copy.deepcopy(calls)
            answers(calls)
            self.assertEqual(calls, before)

    def test_twice_the_same(self):
        for calls in self.LINES:
            self.assertEqual(answers(calls), answers(calls))

    def test_one_line_between_two_others(self):
        alone = [answers(calls) for calls in self.LINES]
        for k, calls in enumerate(self.LINES):
            for j, others in enumerate(self.LINES):
                self.assertEqual((answers(others), answers(calls)), (alone[j], alone[k]))

    def test_names_that_were_given_back_are_not_kept(self):
        calls = [0, 3, 0, 18, 3, 1, 13]
        got = answers(calls)
        got[3:] = [9] * 9
        self.assertEqual(answers(calls), [1, 0, 4, 3, 0, 1, 2, 4, 3, 0, 0, 0])

    def test_a_list_begins_anew_whatever_came_before(self):
        answers([0, 5, 1, 1, 0, 3])
        self.assertEqual(answers([5, 0, 5, 0, 5]), [1, -11, 1, 0, 6, 5, 0, 0, 0, 0, 0])

    def test_what_is_given_back_is_not_kept(self):
        calls = [0, 3, 0, 1, 0, 2, 5]
        got = answers(calls)
        got.clear()
        self.assertEqual(answers(calls), [1, 0, 1, 0, 4, 3, 2, 0, 0])

    def test_a_list_that_lets_nothing_be_changed(self):
        class Guarded(list):
            def refuse(self, *given):
                raise AssertionError("what is handed in was changed")

            append = extend = insert = pop = remove = clear = sort = reverse = refuse
            __setitem__ = __delitem__ = __iadd__ = __imul__ = refuse

        for calls in self.LINES:
            self.assertEqual(answers(Guarded(calls)), answers(calls))


class NotBegun(unittest.TestCase):
    def test_every_other_call_ahead_of_begin(self):
        calls = (put(0, 1), eyes(0), turn(0), mirror(0), ring(), seen(0), view(0), even(0), same(0, 0), alike(0))
        for call in calls:
            self.assertEqual(answers(call), [1, -11])
        self.assertEqual(ask(*calls, begin(3, 0)), [[-11]] * len(calls) + [[0]])

    def test_ahead_of_begin_the_later_calls_too(self):
        later = (views(), lonely(), name(), turns(), mirrors(), axis(), kinds(2), nth(2, 0), rank(), ifeyes(1), told())
        for call in later:
            self.assertEqual(answers(call), [1, -11])
            self.assertEqual(ask(begin(9, 0), call, begin(3, 3), call), [[-22], [-11], [-22], [-11]])
        self.assertEqual(ask(*later, begin(3, 0), ring()), [[-11]] * len(later) + [[0], [3, 0, 0, 0]])

    def test_ahead_of_all_other_refusals(self):
        calls = (put(TOP, TOP), eyes(TOP), turn(TOP), mirror(TOP), seen(TOP), view(TOP), even(TOP), same(TOP, TOP),
                 alike(TOP), eyes(3), put(8, 7), kinds(7), kinds(TOP), nth(7, 0), nth(0, 1), nth(TOP, TOP), ifeyes(3),
                 ifeyes(TOP))
        self.assertEqual(ask(*calls), [[-11]] * len(calls))

    def test_a_refused_begin_is_no_begin(self):
        self.assertEqual(ask(begin(2, 0), ring(), begin(9, 0), put(0, 1), begin(3, 3), eyes(0)),
                         [[-22], [-11], [-22], [-11], [-22], [-11]])

    def test_what_was_refused_ahead_of_begin_changed_nothing(self):
        self.assertEqual(ask(put(0, 2), eyes(2), begin(3, 0), ring(), eyes(1)),
                         [[-11], [-11], [0], [3, 0, 0, 0], [0]])


class Begin(unittest.TestCase):
    def test_every_size_and_all_eyes(self):
        for n in range(3, 9):
            for e in range(3):
                self.assertEqual(ask(begin(n, e), ring(), eyes(0)), [[0], [n] + [0] * n, [e]])

    def test_no_such_ring(self):
        for n in (0, 1, 2, 9, 10, 255, 256, 65536, 2147483648, TOP - 1, TOP):
            self.assertEqual(ask(begin(n, 0)), [[-22]])

    def test_no_such_eyes(self):
        for e in (3, 4, 256, 2147483648, TOP):
            self.assertEqual(ask(begin(3, e)), [[-22]])
            self.assertEqual(ask(begin(8, e)), [[-22]])

    def test_neither_ring_nor_eyes(self):
        self.assertEqual(ask(begin(0, 3), begin(TOP, TOP), begin(2, 3)), [[-22]] * 3)

    def test_again_is_another_ring_without_robots(self):
        got = ask(begin(4, 1), put(0, 6), begin(6, 2), ring(), put(0, 6), eyes(0))
        self.assertEqual(got, [[0], [0], [0], [6, 0, 0, 0, 0, 0, 0], [0], [2]])

    def test_again_with_the_same_numbers(self):
        self.assertEqual(ask(begin(3, 0), put(1, 4), begin(3, 0), ring()), [[0], [0], [0], [3, 0, 0, 0]])

    def test_again_with_fewer_places(self):
        self.assertEqual(ask(begin(8, 0), put(7, 1), begin(3, 0), put(7, 1), put(3, 1), put(2, 1)),
                         [[0], [0], [0], [-2], [-2], [0]])

    def test_again_all_that_is_told_goes_by_the_other_ring(self):
        asked = (views(), lonely(), name(), turns(), mirrors(), axis(), kinds(2), nth(2, 1), rank(), ifeyes(1), told())
        told_first = [[2], [1, 1], [4, 0, 0, 1, 2], [1], [0], [0], [3], [4, 0, 0, 1, 1], [1, 3], [2, 1], [4, 0, 3, 2]]
        told_then = [[0], [0], [3, 0, 0, 0], [3], [3], [3, 0, 1, 2], [2], [3, 0, 1, 1], [0, 0], [0], [3, 2, 0, 0]]
        self.assertEqual(ask(begin(4, 0), put(0, 2), put(1, 1), *asked, begin(3, 2), *asked),
                         [[0], [0], [0], *told_first, [0], *told_then])
        self.assertEqual(ask(begin(4, 0), put(0, 2), put(1, 1), *asked, begin(2, 2), *asked),
                         [[0], [0], [0], *told_first, [-22], *told_first])

    def test_refused_all_stays_as_it_was(self):
        for refused in (begin(2, 0), begin(9, 0), begin(5, 3), begin(TOP, 1), begin(4, TOP)):
            got = ask(begin(4, 1), put(2, 3), refused, ring(), eyes(0), seen(2))
            self.assertEqual(got, [[0], [0], [-22], [4, 0, 0, 3, 0], [1], [4, 3, 0, 0, 0]])


if __name__ == "__main__":
    unittest.main()
