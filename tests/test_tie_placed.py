"""Tie and placed, with their refusals of point 3."""

import unittest
from itertools import product

from tests.helper import TOP, ask, best, known, last, placed, read, shows, start, tie

# Three readings of two places: 00, 01 and 10; no two strands fit them all.
THREE = [read((0, 0, 5), (1, 0, 5)), read((0, 0, 5), (1, 1, 5)), read((0, 1, 3), (1, 0, 7))]
# Of three places, the last of which ties the other two.
OVER_A_THIRD = [read((0, 1, 9), (2, 0, 8)), read((0, 0, 7), (2, 1, 6)), read((1, 0, 5), (2, 0, 4)),
                read((1, 1, 3), (2, 1, 2))]


class Tie(unittest.TestCase):
    def test_no_reading(self):
        self.assertEqual(ask(tie(0, 1)), [[1, 0, 1, 0]])

    def test_the_same_letters_first_then_crossed(self):
        # 00 and 11 cost 0 + 5 + 3; 01 and 10 cost 5 + 0 + 0.
        self.assertEqual(last(*THREE, tie(0, 1)), [1, 8, 1, 5])
        self.assertEqual(last(read((0, 0, 2), (1, 0, 3)), tie(0, 1)), [1, 0, 1, 2])
        self.assertEqual(last(read((0, 1, 2), (1, 1, 3)), tie(0, 1)), [1, 0, 1, 2])
        self.assertEqual(last(read((0, 0, 4), (1, 1, 3)), tie(0, 1)), [1, 3, 1, 0])
        self.assertEqual(last(read((0, 1, 4), (1, 0, 3)), tie(0, 1)), [1, 3, 1, 0])

    def test_i_above_j_and_below(self):
        self.assertEqual(last(*THREE, tie(1, 0)), [1, 8, 1, 5])
        calls = [start(3)] + OVER_A_THIRD
        for i, j in ((0, 1), (0, 2), (1, 2)):
            asked = ask(*calls, tie(i, j), tie(j, i))
            self.assertEqual(asked[-1], asked[-2])

    def test_pairs_with_one_letter_at_a_place_are_left_out(self):
        # 01 and 11 would cost nothing, but have the same letter at 1.
        calls = [read((0, 0, 5), (1, 1, 5)), read((0, 1, 4), (1, 1, 3))]
        self.assertEqual(ask(*calls, best(), tie(0, 1))[2:], [[0, 1, 0, 1, 1, 1], [1, 5, 1, 3]])

    def test_over_a_third_place(self):
        calls = [start(3)] + OVER_A_THIRD
        # Fits crossed at 0 and 2 (else 8 + 6) and the same at 1 and 2 (else 4 + 2): so crossed at 0 and 1.
        self.assertEqual(last(*calls, known(2, 2), tie(0, 1)), [1, 6, 1, 0])
        self.assertEqual(last(*calls, known(2, 2), tie(0, 2)), [1, 14, 1, 0])
        self.assertEqual(last(*calls, known(2, 2), tie(1, 2)), [1, 0, 1, 6])

    def test_what_is_known_of_other_places_counts(self):
        calls = [start(3)] + OVER_A_THIRD
        # Each reading fits at its first place; with 0 on both at the third the second and fourth cost 6 + 2.
        self.assertEqual(last(*calls, known(2, 0), tie(0, 1)), [1, 8, 1, 8])
        self.assertEqual(last(*calls, known(2, 1), tie(0, 1)), [1, 12, 1, 12])

    def test_is_0_twice_if_one_letter_is_known_of_a_place(self):
        for fact, other in product((0, 1), (0, 1, 2, 3)):
            self.assertEqual(last(*THREE, known(0, fact), known(1, other), tie(0, 1)), [0, 0])
            self.assertEqual(last(*THREE, known(1, fact), known(0, other), tie(0, 1)), [0, 0])
            self.assertEqual(last(*THREE, known(1, fact), known(0, other), tie(1, 0)), [0, 0])

    def test_both_costs_are_there_if_no_letter_is_known(self):
        for fact, other in product((2, 3), repeat=2):
            self.assertEqual(last(*THREE, known(0, fact), known(1, other), tie(0, 1)), [1, 8, 1, 5])

    def test_never_one_cost_alone(self):
        # What is known says of no place which strand has which letter: with one way there's always the other.
        for facts in product((0, 1, 2, 3), repeat=3):
            calls = [start(3)] + [known(place, fact) for place, fact in enumerate(facts)] + OVER_A_THIRD
            for i, j in ((0, 1), (0, 2), (2, 1)):
                asked = last(*calls, tie(i, j))
                if facts[i] in (2, 3) and facts[j] in (2, 3):
                    self.assertEqual((len(asked), asked[0], asked[2]), (4, 1, 1), (facts, i, j))
                else:
                    self.assertEqual(asked, [0, 0], (facts, i, j))

    def test_in_different_blocks_both_ways_cost_the_same(self):
        calls = [start(4), read((0, 0, 5), (1, 1, 5)), read((0, 0, 4), (1, 0, 3)), read((2, 1, 6), (3, 1, 2)),
                 known(2, 1)]
        self.assertEqual(last(*calls, tie(0, 3)), [1, 3, 1, 3])
        self.assertEqual(last(*calls, tie(1, 3)), [1, 0, 1, 0])

    def test_one_of_both_is_what_the_best_pairs_cost_if_both_places_differ(self):
        asked = ask(*THREE, known(0, 2), known(1, 2), best(), tie(0, 1))
        self.assertEqual(asked[-2][0], min(asked[-1][1], asked[-1][3]))

    def test_the_last_place_and_the_one_behind_it(self):
        for n in range(2, 7):
            asked = ask(start(n), tie(0, n - 1), tie(n - 1, 0), tie(0, n), tie(n, 0), tie(n - 1, n), tie(n, n - 1))
            self.assertEqual(asked[1:], [[1, 0, 1, 0]] * 2 + [[-1]] * 4)

    def test_refuses_a_place_that_is_not_there(self):
        for place in (2, 3, 6, TOP):
            self.assertEqual(ask(tie(0, place), tie(place, 0), tie(place, place)), [[-1], [-1], [-1]])
        self.assertEqual(ask(tie(TOP, TOP - 1)), [[-1]])

    def test_refuses_the_same_place_twice(self):
        for n in range(1, 7):
            for place in range(n):
                self.assertEqual(last(start(n), tie(place, place)), [-1])
        self.assertEqual(last(known(0, 2), tie(0, 0)), [-1])

    def test_one_place_is_tied_to_none(self):
        self.assertEqual(ask(start(1), tie(0, 0), tie(0, 1), tie(1, 0)), [[1], [-1], [-1], [-1]])

    def test_changes_nothing_refused_or_not(self):
        for call in (tie(0, 1), tie(0, 0), tie(0, 2), tie(TOP, 0)):
            asked = ask(known(0, 2), *THREE, shows(), call, shows(), read((0, 0, 1)))
            self.assertEqual(asked[6], asked[4])
            self.assertEqual(asked[7], [4])


class Placed(unittest.TestCase):
    def test_no_reading(self):
        self.assertEqual(ask(start(1), placed(0))[1], [1, 0, 1, 0, 1, 0])

    def test_0_on_both_then_1_on_both_then_one_of_each(self):
        self.assertEqual(last(start(1), read((0, 1, 5)), read((0, 0, 3)), placed(0)), [1, 5, 1, 3, 1, 0])
        self.assertEqual(last(start(1), read((0, 1, 5)), read((0, 1, 6)), placed(0)), [1, 11, 1, 0, 1, 0])

    def test_is_of_that_place(self):
        # 0 on both at place 0: 00 and 01, reading 3 costs 3. 1 on both: 10 and 11, 5 + 5. One of each: 01 and 10, 5.
        self.assertEqual(last(*THREE, placed(0)), [1, 3, 1, 10, 1, 5])
        # 0 on both at place 1: 00 and 10, reading 2 costs 5. 1 on both: 5 + 0 + 7. One of each: 00 and 01, 3.
        self.assertEqual(last(*THREE, placed(1)), [1, 5, 1, 12, 1, 3])

    def test_what_is_known_of_that_place(self):
        self.assertEqual(last(*THREE, known(0, 0), placed(0)), [1, 3, 0, 0])
        self.assertEqual(last(*THREE, known(0, 1), placed(0)), [0, 1, 10, 0])
        self.assertEqual(last(*THREE, known(0, 2), placed(0)), [0, 0, 1, 5])
        self.assertEqual(last(*THREE, known(0, 3), placed(0)), [1, 3, 1, 10, 1, 5])

    def test_each_is_there_or_not_at_any_place(self):
        wanted = {0: [1, 0, 0, 0], 1: [0, 1, 0, 0], 2: [0, 0, 1, 0], 3: [1, 0, 1, 0, 1, 0]}
        for n in range(1, 7):
            for place, fact in product((0, n - 1), (0, 1, 2, 3)):
                self.assertEqual(last(start(n), known(place, fact), placed(place)), wanted[fact])

    def test_what_is_known_of_other_places_counts(self):
        # 01 twice costs 5 + 0 + 10, 11 twice 10 + 5 + 7, 01 and 11 together 5 + 0 + 7.
        self.assertEqual(last(*THREE, known(1, 1), placed(0)), [1, 15, 1, 22, 1, 12])
        # With one of each at place 0 the strands are 0? and 1?.
        self.assertEqual(last(*THREE, known(0, 2), placed(1)), [1, 5, 1, 12, 1, 5])

    def test_the_least_of_these_is_what_the_best_pairs_cost(self):
        asked = ask(*THREE, best(), placed(0), placed(1))
        self.assertEqual(min(asked[-2][1::2]), asked[-3][0])
        self.assertEqual(min(asked[-1][1::2]), asked[-3][0])

    def test_the_greatest_cost(self):
        marks = [(place, 1, 99) for place in range(6)]
        calls = [start(6)] + [known(place, 0) for place in range(5)] + [read(*marks)] * 10
        self.assertEqual(last(*calls, placed(5)), [1, 5940, 1, 4950, 1, 4950])

    def test_the_last_place_and_the_one_behind_it(self):
        for n in range(1, 7):
            asked = ask(start(n), placed(n - 1), placed(n))
            self.assertEqual(asked[1:], [[1, 0, 1, 0, 1, 0], [-1]])

    def test_refuses_a_place_that_is_not_there(self):
        for place in (2, 3, 6, 255, TOP):
            self.assertEqual(ask(placed(place)), [[-1]])

    def test_changes_nothing_refused_or_not(self):
        for call in (placed(0), placed(1), placed(2), placed(TOP)):
            asked = ask(known(0, 2), *THREE, shows(), call, shows(), read((0, 0, 1)))
            self.assertEqual(asked[6], asked[4])
            self.assertEqual(asked[7], [4])


if __name__ == "__main__":
    unittest.main()
