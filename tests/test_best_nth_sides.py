"""Best, nth (with its refusal of point 3) and sides."""

import unittest
from itertools import product

from tests.helper import TOP, ask, best, drop, known, last, nth, read, sides, start

# Three readings of two places: 00, 01 and 10; no two strands fit them all.
FIRST = read((0, 0, 5), (1, 0, 5))
SECOND = read((0, 0, 5), (1, 1, 5))
THIRD = read((0, 1, 3), (1, 0, 7))
THIRD_TURNED = read((0, 1, 7), (1, 0, 3))


class Best(unittest.TestCase):
    def test_readings_of_one_strand_agree(self):
        asked = ask(SECOND, SECOND, best())
        self.assertEqual(asked[-1], [0, 4, 0, 0, 0, 1])

    def test_readings_of_two_strands_agree(self):
        self.assertEqual(last(FIRST, SECOND, best()), [0, 1, 0, 0, 0, 1])
        self.assertEqual(last(SECOND, FIRST, best()), [0, 1, 0, 0, 0, 1])

    def test_readings_disagree(self):
        self.assertEqual(last(FIRST, SECOND, THIRD, best()), [3, 1, 0, 0, 0, 1])

    def test_prices_say_what_was_misread(self):
        self.assertEqual(last(FIRST, SECOND, THIRD_TURNED, best()), [5, 2, 0, 0, 1, 0])

    def test_a_reading_costs_with_one_strand_as_a_whole(self):
        # 0 then 1 is on no strand of 00 and 11, though each letter is on one of them.
        facts = [start(3), known(0, 2), known(1, 2), known(2, 0)]
        agree = [read((0, 0, 9), (1, 0, 9)), read((0, 1, 9), (1, 1, 9))]
        self.assertEqual(last(*facts, *agree, read((0, 0, 4), (1, 1, 2)), best()), [2, 1, 0, 0, 0, 1, 1, 0])

    def test_costs_are_added_over_marks_and_readings(self):
        calls = [start(3), known(0, 0), known(1, 0), known(2, 0)]
        calls = calls + [read((0, 1, 1), (1, 1, 20), (2, 0, 50)), read((2, 1, 99)), read((1, 0, 7))]
        self.assertEqual(last(*calls, best()), [120, 1, 0, 0, 0, 0, 0, 0])

    def test_the_greatest_cost(self):
        marks = [(place, 1, 99) for place in range(6)]
        calls = [start(6)] + [known(place, 0) for place in range(6)] + [read(*marks)] * 10
        self.assertEqual(last(*calls, best()), [5940, 1] + [0] * 12)

    def test_what_is_known_may_cost(self):
        self.assertEqual(last(known(0, 1), FIRST, SECOND, best()), [10, 1, 1, 0, 1, 1])
        self.assertEqual(last(known(1, 2), FIRST, FIRST, best()), [0, 2, 0, 0, 0, 1])

    def test_the_same_strand_twice_is_one_pair(self):
        self.assertEqual(last(start(1), read((0, 1, 1)), best()), [0, 2, 0, 1])
        self.assertEqual(last(start(1), known(0, 1), read((0, 1, 1)), best()), [0, 1, 1, 1])

    def test_two_strands_either_way_round_are_one_pair(self):
        self.assertEqual(last(known(0, 2), known(1, 2), best()), [0, 2, 0, 0, 1, 1])

    def test_changes_nothing(self):
        asked = ask(FIRST, SECOND, THIRD, best(), best(), sides(), best(), nth(0), best())
        self.assertEqual(asked[3], asked[4])
        self.assertEqual(asked[3], asked[6])
        self.assertEqual(asked[3], asked[8])

    def test_no_two_strands_cost_less_whichever_readings_are_of_which(self):
        readings = [((0, 0, 4), (1, 1, 2)), ((1, 0, 3), (2, 1, 5)), ((0, 1, 1), (2, 0, 6)), ((0, 1, 2), (1, 1, 2)),
                    ((0, 0, 7), (1, 0, 1), (2, 0, 2))]
        strands = list(product((0, 1), repeat=3))
        costs = [[sum(price for place, letter, price in marks if strand[place] != letter) for strand in strands]
                 for marks in readings]
        least = min(sum(cost[pair[side]] for cost, side in zip(costs, of_which))
                    for pair in product(range(8), repeat=2) for of_which in product((0, 1), repeat=len(readings)))
        self.assertEqual(last(start(3), *[read(*marks) for marks in readings], best())[0], least)
        self.assertGreater(least, 0)


class Nth(unittest.TestCase):
    def test_pairs_are_in_order_by_the_first_strand_then_by_the_second(self):
        asked = ask(*[nth(which) for which in range(11)])
        self.assertEqual(asked, [
            [0, 0, 0, 0], [0, 0, 0, 1], [0, 0, 1, 0], [0, 0, 1, 1],
            [0, 1, 0, 1], [0, 1, 1, 0], [0, 1, 1, 1],
            [1, 0, 1, 0], [1, 0, 1, 1],
            [1, 1, 1, 1], [-3]])

    def test_the_strand_with_0_where_they_first_differ_is_the_first(self):
        facts = [start(3), known(0, 1), known(1, 2), known(2, 2)]
        asked = ask(*facts, nth(0), nth(1), nth(2))
        self.assertEqual(asked[4:], [[1, 0, 0, 1, 1, 1], [1, 0, 1, 1, 1, 0], [-3]])

    def test_only_best_pairs_are_counted(self):
        asked = ask(SECOND, nth(0), nth(1), nth(2), nth(3), nth(4))
        self.assertEqual(asked[1:], [[0, 0, 0, 1], [0, 1, 0, 1], [0, 1, 1, 0], [0, 1, 1, 1], [-3]])

    def test_best_pairs_that_cost_something(self):
        asked = ask(FIRST, SECOND, THIRD_TURNED, nth(0), nth(1), nth(2))
        self.assertEqual(asked[3:], [[0, 0, 1, 0], [0, 1, 1, 0], [-3]])

    def test_the_first_is_what_best_tells(self):
        asked = ask(start(4), read((0, 1, 2), (3, 1, 4)), known(2, 1), best(), nth(0))
        self.assertEqual(asked[3][2:], asked[4])

    def test_the_last_and_the_one_behind_it(self):
        for n, count in ((1, 3), (2, 10), (3, 36), (4, 136), (5, 528), (6, 2080)):
            asked = ask(start(n), nth(count - 1), nth(count))
            self.assertEqual(asked[1:], [[1] * (2 * n), [-3]])

    def test_refuses_when_there_are_not_so_many(self):
        for which in (10, 11, 255, 2080, TOP - 1, TOP):
            self.assertEqual(ask(nth(which)), [[-3]])
        self.assertEqual(last(FIRST, SECOND, nth(1)), [-3])

    def test_all_is_as_it_was_after_a_refusal(self):
        asked = ask(known(0, 0), FIRST, SECOND, THIRD, nth(1), best(), sides(), read((0, 0, 1)), drop(1))
        self.assertEqual(asked[4:], [[-3], [3, 1, 0, 0, 0, 1], [3, 1, 0, 0, 2, 1, 0, 3, 0, 3], [4], [3]])


class Sides(unittest.TestCase):
    def test_no_reading(self):
        self.assertEqual(ask(sides()), [[0]])

    def test_each_reading_is_of_the_strand_it_costs_less_with(self):
        self.assertEqual(last(FIRST, SECOND, sides()), [2, 1, 0, 0, 2, 1, 0])
        self.assertEqual(last(SECOND, FIRST, sides()), [2, 1, 1, 0, 2, 0, 0])

    def test_tells_what_each_costs_with_that_pair(self):
        self.assertEqual(last(FIRST, SECOND, THIRD, sides()), [3, 1, 0, 0, 2, 1, 0, 3, 0, 3])

    def test_goes_by_the_first_best_pair(self):
        self.assertEqual(last(FIRST, SECOND, THIRD_TURNED, sides()), [3, 1, 0, 0, 2, 0, 5, 3, 1, 0])

    def test_a_cost_with_the_second_strand_that_is_not_0(self):
        calls = [start(2), known(0, 2), known(1, 0), read((0, 1, 9), (1, 1, 4)), sides()]
        self.assertEqual(last(*calls), [1, 1, 1, 4])

    def test_is_0_where_both_cost_the_same(self):
        self.assertEqual(last(start(1), known(0, 0), read((0, 1, 4)), sides()), [1, 1, 0, 4])
        self.assertEqual(last(known(0, 2), known(1, 0), read((1, 0, 4)), read((1, 1, 3)), sides()),
                         [2, 1, 0, 0, 2, 0, 3])
        # 01 costs 3 with 00 and 3 with 11.
        asked = last(known(0, 2), known(1, 2), read((0, 0, 9), (1, 0, 9)), read((0, 0, 3), (1, 1, 3)), sides())
        self.assertEqual(asked, [2, 1, 0, 0, 2, 0, 3])

    def test_readings_stand_in_order_under_their_numbers(self):
        asked = ask(read((0, 0, 1)), read((0, 1, 1)), read((1, 0, 1)), drop(2), read((1, 1, 1)), sides())
        self.assertEqual(asked[-1], [3, 1, 0, 0, 3, 0, 0, 4, 1, 0])

    def test_ten_readings(self):
        calls = [start(1), known(0, 2)] + [read((0, number % 2, 1)) for number in range(1, 11)] + [sides()]
        self.assertEqual(last(*calls), [10] + [n for number in range(1, 11) for n in (number, number % 2, 0)])

    def test_costs_add_up_to_what_the_best_pairs_cost(self):
        calls = [start(3), read((0, 1, 4), (1, 0, 2)), read((1, 1, 3), (2, 1, 5)), read((0, 0, 1), (2, 0, 6)),
                 read((0, 1, 2), (1, 1, 2), (2, 0, 9)), read((0, 0, 7), (1, 1, 1), (2, 1, 2))]
        asked = ask(*calls, best(), sides())
        self.assertEqual(sum(asked[-1][3::3]), asked[-2][0])
        self.assertGreater(asked[-2][0], 0)


if __name__ == "__main__":
    unittest.main()
