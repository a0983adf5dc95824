"""Cost, with its refusal of point 3, and shows."""

import unittest
from itertools import product

from tests.helper import (TOP, ask, best, blocks, cost, drop, known, last, nth, placed, read, shows, sides, start,
                          thrown, tie)

THREE = [read((0, 0, 5), (1, 0, 5)), read((0, 0, 5), (1, 1, 5)), read((0, 1, 3), (1, 0, 7))]


class Cost(unittest.TestCase):
    def test_no_reading(self):
        self.assertEqual(ask(cost([0, 1], [1, 1])), [[0]])

    def test_each_reading_costs_with_the_strand_with_which_it_costs_less(self):
        self.assertEqual(last(*THREE, cost([0, 0], [0, 1])), [3])
        self.assertEqual(last(*THREE, cost([0, 0], [1, 1])), [8])
        self.assertEqual(last(*THREE, cost([0, 1], [1, 0])), [5])
        # Letters are not taken from both: 01 costs 2 with 00 and 4 with 11.
        self.assertEqual(last(read((0, 0, 4), (1, 1, 2)), cost([0, 0], [1, 1])), [2])

    def test_either_order(self):
        strands = list(product((0, 1), repeat=2))
        for a, b in product(strands, repeat=2):
            asked = ask(*THREE, cost(a, b), cost(b, a))
            self.assertEqual(asked[-1], asked[-2])
        self.assertEqual(last(*THREE, cost([1, 0], [0, 0])), [5])

    def test_both_the_same(self):
        self.assertEqual(last(*THREE, cost([0, 0], [0, 0])), [8])
        self.assertEqual(last(*THREE, cost([1, 1], [1, 1])), [22])

    def test_whatever_is_known(self):
        for fact, other in product((0, 1, 2, 3), repeat=2):
            facts = [known(0, fact), known(1, other)]
            asked = ask(*facts, *THREE, cost([0, 0], [0, 1]), cost([1, 1], [1, 1]), cost([1, 0], [0, 1]))
            self.assertEqual(asked[5:], [[3], [22], [5]])

    def test_the_best_pair_costs_what_best_tells(self):
        calls = [start(3), read((0, 1, 4), (2, 0, 2)), read((1, 1, 3), (2, 1, 5)), read((0, 0, 1), (2, 0, 6)),
                 read((0, 1, 2), (1, 0, 2)), known(0, 2)]
        told = last(*calls, best())
        self.assertEqual(last(*calls, cost(told[2:5], told[5:])), told[:1])
        self.assertGreater(told[0], 0)

    def test_the_greatest_cost(self):
        marks = [(place, 1, 99) for place in range(6)]
        self.assertEqual(last(start(6), *[read(*marks)] * 10, cost([0] * 6, [0] * 6)), [5940])

    def test_a_dropped_reading_costs_nothing(self):
        self.assertEqual(last(*THREE, drop(2), cost([1, 1], [1, 1])), [17])

    def test_refuses_rows_that_are_not_of_n_letters(self):
        for n in range(1, 7):
            good = [1] * n
            self.assertEqual(last(start(n), cost(good, good)), [0])
            for length in (0, n - 1, n + 1, 10):
                wrong = [0] * length
                asked = ask(start(n), cost(wrong, good), cost(good, wrong), cost(wrong, wrong), cost(good, good))
                self.assertEqual(asked[1:], [[-1], [-1], [-1], [0]])

    def test_refuses_rows_that_are_n_letters_together_alone(self):
        self.assertEqual(ask(cost([0], [0, 1, 1]), cost([0, 1, 1], [0]), cost([], [0, 1, 1, 0])), [[-1]] * 3)

    def test_refuses_what_is_no_letter(self):
        for n, letter in product(range(1, 7), (2, 3, 255, TOP)):
            good = [0] * n
            for place in range(n):
                wrong = good[:place] + [letter] + good[place + 1:]
                self.assertEqual(ask(start(n), cost(wrong, good), cost(good, wrong), cost(wrong, wrong))[1:], [[-1]] * 3)

    def test_goes_by_the_places_there_are_now(self):
        asked = ask(start(4), cost([0] * 4, [1] * 4), start(3), cost([0] * 4, [1] * 4), cost([0] * 3, [1] * 3))
        self.assertEqual(asked, [[4], [0], [3], [-1], [0]])

    def test_changes_nothing_refused_or_not(self):
        for call in (cost([0, 1], [1, 1]), cost([], []), cost([0, 1], [0]), cost([2, 0], [0, 0]), cost([0] * 10, [TOP])):
            asked = ask(known(0, 2), *THREE, shows(), call, shows(), read((0, 0, 1)))
            self.assertEqual(asked[6], asked[4])
            self.assertEqual(asked[7], [4])


class Shows(unittest.TestCase):
    def test_before_any_start(self):
        self.assertEqual(ask(shows()), [[3, 3, 0]])

    def test_after_start(self):
        for n in range(1, 7):
            self.assertEqual(last(known(0, 1), read((0, 1, 1)), start(n), shows()), [3] * n + [0])

    def test_things_known(self):
        facts = [2, 0, 3, 1, 1, 2]
        calls = [start(6)] + [known(place, fact) for place, fact in enumerate(facts)]
        self.assertEqual(last(*calls, shows()), facts + [0])
        self.assertEqual(last(*calls, known(1, 3), known(5, 0), shows()), [2, 3, 3, 1, 1, 0, 0])

    def test_readings_of_one_mark(self):
        self.assertEqual(last(read((1, 0, 99)), read((0, 1, 1)), shows()), [3, 3, 2, 1, 1, 1, 0, 99, 2, 1, 0, 1, 1])

    def test_marks_stand_in_the_order_in_which_they_were_handed_in(self):
        calls = [start(3), known(1, 2), read((2, 1, 9), (0, 0, 8), (1, 1, 7)), read((1, 0, 3), (0, 1, 4)), shows()]
        self.assertEqual(last(*calls), [3, 2, 3, 2, 1, 3, 2, 1, 9, 0, 0, 8, 1, 1, 7, 2, 2, 1, 0, 3, 0, 1, 4])

    def test_after_a_drop(self):
        calls = [read((0, 0, 1)), read((0, 0, 2), (1, 1, 3)), read((1, 0, 4)), drop(2), shows()]
        self.assertEqual(last(*calls), [3, 3, 2, 1, 1, 0, 0, 1, 3, 1, 1, 0, 4])
        self.assertEqual(last(*calls, read((1, 1, 5)), drop(1), shows()), [3, 3, 2, 3, 1, 1, 0, 4, 4, 1, 1, 1, 5])
        self.assertEqual(last(*calls, drop(1), drop(3), shows()), [3, 3, 0])

    def test_ten_readings_of_six_marks(self):
        rows = [[(place, (place + r) % 2, 1 + 9 * r + place) for place in range(6)] for r in range(10)]
        wanted = [3] * 6 + [10]
        for number, marks in enumerate(rows, start=1):
            wanted += [number, 6] + [number for mark in marks for number in mark]
        self.assertEqual(last(start(6), *[read(*marks) for marks in rows], shows()), wanted)

    def test_all_is_as_it_was_after_each_refused_call(self):
        wrong = [(start(0), -1), (start(7), -1), (known(2, 0), -1), (known(0, 4), -1), (read(), -1),
                 (read((0, 0, 1), (2, 0, 1)), -1), (read((0, 0, 1), (0, 0, 1)), -1), (read((0, 2, 1)), -1),
                 (read((0, 0, 100)), -1), (drop(0), -3), (drop(4), -3), (drop(TOP), -3), (nth(10), -3), (tie(0, 0), -1),
                 (tie(0, 2), -1), (placed(2), -1), (cost([0], [0, 1]), -1), (cost([0, 1], [0, 2]), -1)]
        for call, refusal in wrong:
            asked = ask(known(1, 2), *THREE, shows(), call, shows(), read((0, 1, 1)))
            self.assertEqual(asked[4], [3, 2, 3, 1, 2, 0, 0, 5, 1, 0, 5, 2, 2, 0, 0, 5, 1, 1, 5, 3, 2, 0, 1, 3, 1, 0, 7])
            self.assertEqual(asked[5:], [[refusal], asked[4], [4]], call)

    def test_all_is_as_it_was_after_minus_5(self):
        asked = ask(*[read((0, 1, 7))] * 10, shows(), read((1, 1, 1)), shows())
        self.assertEqual(asked[10:], [asked[10], [-5], asked[10]])

    def test_no_question_changes_anything(self):
        questions = [best(), nth(0), sides(), tie(0, 1), placed(1), blocks(), thrown(), cost([0, 1], [1, 0]), shows()]
        for call in questions:
            asked = ask(known(0, 2), *THREE, drop(2), shows(), call, shows(), read((0, 0, 1)))
            self.assertEqual(asked[5], [2, 3, 2, 1, 2, 0, 0, 5, 1, 0, 5, 3, 2, 0, 1, 3, 1, 0, 7])
            self.assertEqual(asked[7:], [asked[5], [4]], call)


if __name__ == "__main__":
    unittest.main()
