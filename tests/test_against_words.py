"""Lists of many calls, answered a second way: word by word as the document has it, without regard for time."""

import unittest
from itertools import product

from tests.helper import best, drop, joined, known, nth, read, sides, split, start
from twostrands.desk import answers

LETTERS = {0: [(0, 0)], 1: [(1, 1)], 2: [(0, 1), (1, 0)], 3: [(0, 0), (0, 1), (1, 0), (1, 1)]}


class Numbers:
    """Numbers that are the same each time the tests are run."""

    def __init__(self, seed):
        self.state = seed

    def below(self, limit):
        self.state = (self.state * 6364136223846793005 + 1442695040888963407) % 2 ** 64
        return (self.state >> 33) % limit

    def one_of(self, *choices):
        return choices[self.below(len(choices))]


class Words:
    def __init__(self):
        self.start(2)

    def start(self, n):
        if n not in range(1, 7):
            return [-1]
        self.n = n
        self.facts = dict.fromkeys(range(n), 3)
        self.readings = {}
        self.used = 0
        return [n]

    def known(self, i, k):
        if i not in self.facts or k > 3:
            return [-1]
        self.facts[i] = k
        return [k]

    def read(self, *marks):
        places = [place for place, letter, price in marks]
        if not marks or len(set(places)) != len(places) or not set(places) <= set(self.facts):
            return [-1]
        if any(letter > 1 or not 1 <= price <= 99 for place, letter, price in marks):
            return [-1]
        if len(self.readings) == 10:
            return [-5]
        self.used += 1
        self.readings[self.used] = marks
        return [self.used]

    def drop(self, r):
        if r not in self.readings:
            return [-3]
        self.readings.pop(r)
        return [len(self.readings)]

    def costs(self, marks, pair):
        return [sum(price for place, letter, price in marks if strand[place] != letter) for strand in pair]

    def bests(self):
        by_place = product(*[LETTERS[self.facts[place]] for place in range(self.n)])
        pairs = sorted({tuple(sorted(zip(*letters))) for letters in by_place})
        cost = {pair: sum(min(self.costs(marks, pair)) for marks in self.readings.values()) for pair in pairs}
        least = min(cost.values())
        return least, [pair for pair in pairs if cost[pair] == least]

    def best(self):
        least, pairs = self.bests()
        return [least, len(pairs), *pairs[0][0], *pairs[0][1]]

    def nth(self, i):
        pairs = self.bests()[1]
        return [*pairs[i][0], *pairs[i][1]] if i < len(pairs) else [-3]

    def sides(self):
        pair = self.bests()[1][0]
        given = [len(self.readings)]
        for number, marks in sorted(self.readings.items()):
            first, second = self.costs(marks, pair)
            given += [number, int(second < first), min(first, second)]
        return given


def some_marks(numbers, n):
    """Mostly marks as told, at places that are there; now and then something wrong."""
    marks = [(place, numbers.below(2), 1 + numbers.below(numbers.one_of(3, 99))) for place in range(n)]
    marks = [mark for mark in marks if numbers.below(3)]
    if numbers.below(2):
        marks.reverse()
    if not numbers.below(6):
        marks.append((numbers.one_of(0, n - 1, n), numbers.one_of(0, 1, 2), numbers.one_of(0, 1, 99, 100)))
    return marks


def some_call(numbers, n):
    """A call as it is written, its name, and what is handed to it."""
    name = numbers.one_of("known", "read", "read", "read", "read", "drop", "best", "nth", "sides", "sides")
    if name == "known":
        return name, known, [numbers.below(n + 1), numbers.below(5)]
    if name == "read":
        return name, read, some_marks(numbers, n)
    if name == "drop":
        return name, drop, [numbers.below(12)]
    if name == "nth":
        return name, nth, [numbers.below(numbers.one_of(3, 12, 40))]
    return name, {"best": best, "sides": sides}[name], []


class AgainstTheWords(unittest.TestCase):
    def check(self, seed, highest, length):
        numbers = Numbers(seed)
        words = Words()
        calls = []
        wanted = []
        while len(calls) < length:
            if not calls or not numbers.below(25):
                name, written, handed = "start", start, [numbers.below(highest + 1)]
            else:
                name, written, handed = some_call(numbers, words.n)
            calls.append(written(*handed))
            wanted.append(getattr(words, name)(*handed))
        self.assertEqual(split(answers(joined(calls))), wanted, (seed, calls))

    def test_few_places(self):
        for seed in range(250):
            self.check(seed, 4, 40)

    def test_many_places(self):
        for seed in range(1000, 1012):
            self.check(seed, 7, 20)


if __name__ == "__main__":
    unittest.main()
