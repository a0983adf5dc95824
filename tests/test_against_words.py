"""Lists of many calls, answered a second way: word by word as the document has it, without regard for time."""

import unittest
from itertools import combinations, product

from tests import helper
from tests.helper import joined, split
from twostrands.desk import answers

QUESTIONS = ("best", "nth", "sides", "tie", "placed", "blocks", "thrown", "cost", "shows")
LETTERS = {0: [(0, 0)], 1: [(1, 1)], 2: [(0, 1), (1, 0)], 3: [(0, 0), (0, 1), (1, 0), (1, 1)]}


class Numbers:
    """Numbers that are the same each time the tests are run."""

    def __init__(self, seed):
        self.state = seed

    def below(self, limit):
        self.state = (self.state * 6364136223846793005 + 1442695040888963407) % 2 ** 64
        return (self.state >> 33) % limit

    def one_of(self, *choices):
        return choices[self.below(len(choices))]


class Words:
    def __init__(self):
        self.start(2)

    def start(self, n):
        if n not in range(1, 7):
            return [-1]
        self.n = n
        self.facts = dict.fromkeys(range(n), 3)
        self.readings = {}
        self.used = 0
        return [n]

    def known(self, i, k):
        if i not in self.facts or k > 3:
            return [-1]
        self.facts[i] = k
        return [k]

    def read(self, *marks):
        places = [place for place, letter, price in marks]
        if not marks or len(set(places)) != len(places) or not set(places) <= set(self.facts):
            return [-1]
        if any(letter > 1 or not 1 <= price <= 99 for place, letter, price in marks):
            return [-1]
        if len(self.readings) == 10:
            return [-5]
        self.used += 1
        self.readings[self.used] = marks
        return [self.used]

    def drop(self, r):
        if r not in self.readings:
            return [-3]
        self.readings.pop(r)
        return [len(self.readings)]

    def costs(self, marks, pair):
        return [sum(price for place, letter, price in marks if strand[place] != letter) for strand in pair]

    def pair_cost(self, pair):
        return sum(min(self.costs(marks, pair)) for marks in self.readings.values())

    def pairs(self):
        by_place = product(*[LETTERS[self.facts[place]] for place in range(self.n)])
        return sorted({tuple(sorted(zip(*letters))) for letters in by_place})

    def bests(self):
        pair_costs = {pair: self.pair_cost(pair) for pair in self.pairs()}
        least = min(pair_costs.values())
        return least, [pair for pair in pair_costs if pair_costs[pair] == least]

    def least(self, pairs):
        return [1, min(self.pair_cost(pair) for pair in pairs)] if pairs else [0]

    def best(self):
        least, pairs = self.bests()
        return [least, len(pairs), *pairs[0][0], *pairs[0][1]]

    def nth(self, i):
        pairs = self.bests()[1]
        return [*pairs[i][0], *pairs[i][1]] if i < len(pairs) else [-3]

    def sides(self):
        pair = self.bests()[1][0]
        given = [len(self.readings)]
        for number, marks in sorted(self.readings.items()):
            first, second = self.costs(marks, pair)
            given += [number, int(second < first), min(first, second)]
        return given

    def tie(self, i, j):
        if i not in self.facts or j not in self.facts or i == j:
            return [-1]
        with_1 = {1: [], 0: []}
        for pair in self.pairs():
            if {strand[i] for strand in pair} == {strand[j] for strand in pair} == {0, 1}:
                for strand in pair:
                    if strand[i] == 1:
                        with_1[strand[j]].append(pair)
        return self.least(with_1[1]) + self.least(with_1[0])

    def placed(self, i):
        if i not in self.facts:
            return [-1]
        given = []
        for letters in ([0, 0], [1, 1], [0, 1]):
            given += self.least([pair for pair in self.pairs() if sorted(strand[i] for strand in pair) == letters])
        return given

    def blocks(self):
        tied = {(place, place) for place in range(self.n)}
        for marks in self.readings.values():
            tied |= {(one[0], other[0]) for one in marks for other in marks}
        for over, one, other in product(range(self.n), repeat=3):
            if (one, over) in tied and (over, other) in tied:
                tied.add((one, other))
        found = sorted({tuple(other for other in range(self.n) if (place, other) in tied) for place in range(self.n)})
        return [len(found)] + joined([[len(block), *block] for block in found])

    def thrown(self):
        kept = {frozenset(number for number, marks in self.readings.items() if min(self.costs(marks, pair)) == 0)
                for pair in self.pairs()}
        for count in range(len(self.readings) + 1):
            for numbers in combinations(sorted(self.readings), count):
                others = set(self.readings) - set(numbers)
                if any(others <= fit for fit in kept):
                    return [count, *numbers]

    def cost(self, a, b):
        if {len(a), len(b)} != {self.n} or not set(a) | set(b) <= {0, 1}:
            return [-1]
        return [self.pair_cost((a, b))]

    def shows(self):
        given = [self.facts[place] for place in range(self.n)] + [len(self.readings)]
        for number, marks in sorted(self.readings.items()):
            given += [number, len(marks)] + joined(marks)
        return given


def some_marks(numbers, n):
    """Mostly marks as told, at places that are there; now and then something wrong."""
    marks = [(place, numbers.below(2), 1 + numbers.below(numbers.one_of(3, 99))) for place in range(n)]
    marks = [mark for mark in marks if numbers.below(3)]
    if numbers.below(2):
        marks.reverse()
    if not numbers.below(6):
        marks.append((numbers.one_of(0, n - 1, n), numbers.one_of(0, 1, 2), numbers.one_of(0, 1, 99, 100)))
    return marks


def some_strand(numbers, n):
    """Mostly n letters; now and then too few, too many or no letter."""
    length = n if numbers.below(8) else numbers.one_of(0, n - 1, n + 1, 10)
    return [numbers.below(2) if numbers.below(30) else numbers.one_of(2, helper.TOP) for place in range(length)]


def some_question(numbers, n, name):
    """What is handed to a call that changes nothing."""
    if name == "nth":
        return [numbers.below(numbers.one_of(3, 12, 40))]
    if name == "tie":
        return [numbers.below(n + 1) if numbers.below(8) else numbers.below(n) for place in range(2)]
    if name == "placed":
        return [numbers.below(n + 1)]
    if name == "cost":
        return [some_strand(numbers, n), some_strand(numbers, n)]
    return []


def some_call(numbers, n):
    """A call's name, and what is handed to it."""
    if numbers.below(2):
        name = numbers.one_of(*QUESTIONS)
        return name, some_question(numbers, n, name)
    name = numbers.one_of("known", "read", "read", "read", "read", "drop")
    if name == "known":
        return name, [numbers.below(n + 1), numbers.below(5)]
    if name == "read":
        return name, some_marks(numbers, n)
    return name, [numbers.below(12)]


class AgainstTheWords(unittest.TestCase):
    def compare(self, named):
        """Of a list of calls, each by its name and what is handed to it."""
        words = Words()
        calls = [getattr(helper, name)(*handed) for name, handed in named]
        wanted = [getattr(words, name)(*handed) for name, handed in named]
        self.assertEqual(split(answers(joined(calls))), wanted, named)
        return wanted

    def check(self, seed, highest, length):
        numbers = Numbers(seed)
        n = 2
        named = []
        while len(named) < length:
            if not named or not numbers.below(25):
                name, handed = "start", [numbers.below(highest + 1)]
                n = handed[0] if 1 <= handed[0] <= 6 else n
            else:
                name, handed = some_call(numbers, n)
            named.append((name, handed))
        self.compare(named)

    def test_few_places(self):
        for seed in range(300):
            self.check(seed, 4, 40)

    def test_many_places(self):
        for seed in range(1000, 1020):
            self.check(seed, 7, 20)

    def check_ten_readings(self, seed, n, facts):
        """Ten readings that mark every place, all calls asked, 40 calls in all."""
        numbers = Numbers(seed)
        named = [("start", [n])] + [("known", [place, fact]) for place, fact in enumerate(facts)]
        for count in range(10):
            named.append(("read", [(place, numbers.below(2), 1 + numbers.below(99)) for place in range(n)]))
        named.extend((name, some_question(numbers, n, name)) for name in QUESTIONS)
        named.extend([("read", [(0, 0, 1)]), ("drop", [1 + numbers.below(10)]), ("drop", [11])])
        while len(named) < 40:
            name = numbers.one_of(*QUESTIONS)
            named.append((name, some_question(numbers, n, name)))
        self.assertEqual(len(named), 40)
        wanted = self.compare(named)
        self.assertIn([-5], wanted)

    def test_ten_readings_of_six_marks(self):
        self.check_ten_readings(1, 6, [])
        self.check_ten_readings(2, 6, [2, 2, 2, 2, 2, 2])
        self.check_ten_readings(3, 6, [3, 0, 2, 1, 3, 2])

    def test_ten_readings_of_one_place(self):
        for fact in (0, 1, 2, 3):
            self.check_ten_readings(4 + fact, 1, [fact])

    def test_every_call_is_asked(self):
        asked = set()
        for seed in range(20):
            numbers = Numbers(seed)
            asked |= {some_call(numbers, 3)[0] for count in range(40)}
        self.assertEqual(sorted(asked | {"start"}), sorted(QUESTIONS + ("start", "known", "read", "drop")))
        self.assertEqual(len(asked | {"start"}), 13)


if __name__ == "__main__":
    unittest.main()
