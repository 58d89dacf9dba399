"""Whole lines: calls of all sorts in any order, held against a second way to answer them."""

import functools
import itertools
import unittest

from robotviews.rings import answers
from tests.lines import TOP, flat, taken_apart

# How many numbers each call has of its own, by its number.
OWN = (2, 2, 1, 1, 1, 0, 1, 1, 1, 2, 1, 0, 0, 0, 0, 0, 0, 1, 2, 0, 1, 0)

SIGNS = ("0123456", "0122222", "0111111")


@functools.cache
def names(n, k):
    """Rows as texts: the robots are dealt out in all ways, and each way is turned and mirrored."""
    dealt = itertools.combinations_with_replacement(range(n), k)
    rows = ("".join(str(places.count(p)) for p in range(n)) for places in dealt)
    return sorted({min(both_ways(row)) for row in rows})


def both_ways(row):
    """The row by each turning, then by each mirroring."""
    n = len(row)
    return [(row + row)[s:s + n] for s in range(n)] + [(row + row)[n + s:s:-1] for s in range(n)]


class Second:
    """A ring as a text of digits, None if there is none yet."""

    def __init__(self):
        self.row = None
        self.eyes = 0

    def pairs(self, e):
        """For each place both rows from it, the lesser one first."""
        n = len(self.row)
        every = both_ways("".join(SIGNS[e][int(sign)] for sign in self.row))
        return [sorted((every[p], every[n + p])) for p in range(n)]

    def if_eyes(self, e):
        lesser = {p: pair[0] for p, pair in enumerate(self.pairs(e)) if self.row[p] != "0"}
        alone = [p for p in lesser if self.row[p] == "1" and list(lesser.values()).count(lesser[p]) == 1]
        return len(set(lesser.values())), alone

    def answer(self, number, given):
        if number == 0:
            if not 3 <= given[0] <= 8 or given[1] > 2:
                return [-22]
            self.row, self.eyes = "0" * given[0], given[1]
            return [0]
        if self.row is None:
            return [-11]
        if number in (1, 3, 4, 6, 7, 8, 9, 10):
            places = given[:1] if number == 1 else given
            if max(places) >= len(self.row):
                return [-2]
            if number >= 6:
                return self.of_robots(number, places)
        return self.of_ring(number, given)

    def of_robots(self, number, places):
        if any(self.row[p] == "0" for p in places):
            return [-33]
        pairs = self.pairs(self.eyes)
        p = places[0]
        if number == 6:
            shown = "".join(SIGNS[self.eyes][int(sign)] for sign in self.row)
            return [len(shown)] + [int(sign) for sign in shown[p:] + shown[:p]]
        if number == 7:
            return [2 * len(pairs)] + [int(sign) for sign in pairs[p][0] + pairs[p][1]]
        if number == 8:
            return [int(pairs[p][0] == pairs[p][1])]
        if number == 9:
            return [int(pairs[p][0] == pairs[places[1]][0])]
        those = [q for q, pair in enumerate(pairs) if self.row[q] != "0" and pair[0] == pairs[p][0]]
        return [len(those)] + those

    def put(self, p, x):
        if x > 6:
            return [-22]
        row = self.row[:p] + str(x) + self.row[p + 1:]
        if sum(map(int, row)) > 6:
            return [-28]
        before, self.row = int(self.row[p]), row
        return [before]

    def nth(self, k, i):
        known = names(len(self.row), k)
        return self.counted(known[i]) if i < len(known) else [-33]

    def counted(self, row):
        return [len(row)] + [int(sign) for sign in row]

    def of_ring(self, number, given):
        n = len(self.row)
        every = both_ways(self.row)
        robots = sum(map(int, self.row))
        if number in (2, 20) and given[0] > 2 or number in (17, 18) and given[0] > 6:
            return [-22]
        if number == 1:
            return self.put(*given)
        if number == 2:
            before, self.eyes = self.eyes, given[0]
            return [before]
        if number in (3, 4):
            self.row = every[given[0] + (n if number == 4 else 0)]
            return [0]
        if number == 17:
            return [len(names(n, given[0]))]
        if number == 18:
            return self.nth(*given)
        if number == 20:
            return [self.if_eyes(given[0])[0]] + self.if_eyes(given[0])[1]
        kept = [s for s in range(n) if every[n + s] == self.row]
        axis = [i for i in range(n) if i in [s - i for s in kept] + [s - i + n for s in kept]]
        return {
            5: self.counted(self.row),
            11: [self.if_eyes(self.eyes)[0]],
            12: [len(self.if_eyes(self.eyes)[1])] + self.if_eyes(self.eyes)[1],
            13: self.counted(min(every)),
            14: [every[:n].count(self.row)],
            15: [len(kept)],
            16: [len(axis)] + axis,
            19: [names(n, robots).index(min(every)), robots],
            21: [n, self.eyes, robots, n - self.row.count("0")],
        }[number]


class Numbers:
    """Numbers that are the same at each run, and look like none of them hangs on another."""

    def __init__(self, seed):
        self.state = seed

    def below(self, bound):
        self.state = (self.state * 6364136223846793005 + 1442695040888963407) % 2 ** 64
        return (self.state >> 33) % bound

    def one_of(self, choices):
        return choices[self.below(len(choices))]

    def argument(self, number, at):
        """Mostly what is not refused; now and then what is, just or by far."""
        if self.below(25) == 0:
            return self.one_of((TOP, TOP - 1, 2147483648, 256, 9, 8, 7, 3))
        if number == 0:
            return self.one_of((3, 4, 5, 6, 7, 8, 8, 2, 9)) if at == 0 else self.one_of((0, 1, 2, 0, 1, 2, 0, 3))
        if number in (2, 20):
            return self.one_of((0, 1, 2, 0, 1, 2, 3))
        if number == 1 and at == 1:
            return self.one_of((0, 1, 1, 1, 1, 2, 2, 3, 6, 7))
        if number == 17 or number == 18 and at == 0:
            return self.below(8)
        if number == 18:
            return self.below(self.one_of((2, 8, 30, 130)))
        return self.below(self.one_of((3, 5, 8, 9)))

    def call(self):
        number = self.one_of((1, 1, 1, 1, self.below(22), self.below(22), 6 + self.below(16), 11 + self.below(11)))
        if number == 0 and self.below(2):
            number = 21
        return [number] + [self.argument(number, at) for at in range(OWN[number])]

    def line(self):
        """Up to 50 calls of 150 numbers at most; most lines soon begin a ring."""
        calls = [self.call() for k in range(self.one_of((0, 0, 0, 2)))]
        calls.append([0, 3 + self.below(6), self.below(3)])
        calls += [self.call() for k in range(self.below(50 - len(calls)) + 1)]
        return calls


class MixedLines(unittest.TestCase):
    def test_lines(self):
        numbers = Numbers(2026)
        met = set()
        for k in range(1500):
            calls = numbers.line()
            second = Second()
            wanted = [second.answer(call[0], call[1:]) for call in calls]
            self.assertEqual(taken_apart(answers(flat(calls))), wanted, calls)
            met |= {(call[0], min(got[0], 0)) for call, got in zip(calls, wanted)}
        self.assertEqual(met, self.all_that_may_be_met())

    def all_that_may_be_met(self):
        """Each call answered, and refused in each way that there is for it."""
        met = {(number, 0) for number in range(22)} | {(number, -11) for number in range(1, 22)}
        met |= {(number, -22) for number in (0, 1, 2, 17, 18, 20)} | {(1, -28), (18, -33)}
        met |= {(number, -2) for number in (1, 3, 4, 6, 7, 8, 9, 10)}
        return met | {(number, -33) for number in (6, 7, 8, 9, 10)}

    def test_begin_again_in_between(self):
        calls = [
            [21], [0, 4, 1], [1, 0, 2], [1, 1, 1], [13], [19], [7, 0], [0, 9, 9], [21], [12], [0, 6, 0], [21], [16],
            [1, 1, 1], [1, 4, 2], [16], [14], [10, 4], [12], [3, 1], [16], [4, 0], [16], [20, 2], [2, 2], [12], [11],
            [0, 3, 0], [13], [17, 6], [5],
        ]
        wanted = [
            [-11], [0], [0], [0], [4, 0, 0, 1, 2], [1, 3], [8, 2, 0, 0, 1, 2, 1, 0, 0], [-22], [4, 1, 3, 2], [1, 1],
            [0], [6, 0, 0, 0], [6, 0, 1, 2, 3, 4, 5], [0], [0], [2, 1, 4], [1], [1, 4], [1, 1], [0], [2, 0, 3], [0],
            [2, 0, 3], [1], [0], [0], [1], [0], [3, 0, 0, 0], [7], [3, 0, 0, 0],
        ]
        self.assertEqual(taken_apart(answers(flat(calls))), wanted)


if __name__ == "__main__":
    unittest.main()
