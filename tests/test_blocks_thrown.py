"""Blocks and thrown."""

import unittest
from itertools import product

from tests.helper import ask, best, blocks, drop, joined, known, last, read, shows, start, thrown


def over(*places):
    """A reading that marks these places."""
    return read(*[(place, place % 2, 3) for place in places])


def strand(letters, price=1):
    """A reading of a strand's first places, as a text of 0s and 1s."""
    return read(*[(place, int(letter), price) for place, letter in enumerate(letters)])


class Blocks(unittest.TestCase):
    def test_no_reading_leaves_each_place_alone(self):
        self.assertEqual(ask(blocks()), [[2, 1, 0, 1, 1]])
        for n in range(1, 7):
            self.assertEqual(last(start(n), blocks()), [n] + joined([[1, place] for place in range(n)]))

    def test_all_in_one(self):
        for n in range(1, 7):
            self.assertEqual(last(start(n), over(*range(n)), blocks()), [1, n] + list(range(n)))
            self.assertEqual(last(start(n), over(*reversed(range(n))), blocks()), [1, n] + list(range(n)))

    def test_tied_only_over_a_third_place(self):
        for first, second in ((over(0, 1), over(1, 2)), (over(0, 2), over(1, 2)), (over(0, 1), over(0, 2))):
            self.assertEqual(last(start(3), first, second, blocks()), [1, 3, 0, 1, 2])
            self.assertEqual(last(start(3), second, first, blocks()), [1, 3, 0, 1, 2])

    def test_tied_over_many_places_in_any_order(self):
        chain = [over(0, 1), over(1, 2), over(2, 3), over(3, 4), over(4, 5)]
        for turned in (chain, chain[::-1], chain[::2] + chain[1::2], chain[1::2] + chain[::2]):
            self.assertEqual(last(start(6), *turned, blocks()), [1, 6, 0, 1, 2, 3, 4, 5])

    def test_readings_with_one_mark_tie_nothing(self):
        calls = [start(3), over(0), over(1), over(2), over(1), blocks()]
        self.assertEqual(last(*calls), [3, 1, 0, 1, 1, 1, 2])

    def test_places_of_a_block_need_not_be_next_to_one_another(self):
        self.assertEqual(last(start(4), over(0, 2), over(3, 1), blocks()), [2, 2, 0, 2, 2, 1, 3])
        self.assertEqual(last(start(6), over(4, 5), over(5, 1), over(3, 4), blocks()),
                         [3, 1, 0, 4, 1, 3, 4, 5, 1, 2])
        self.assertEqual(last(start(6), over(5, 0), blocks()), [5, 2, 0, 5, 1, 1, 1, 2, 1, 3, 1, 4])

    def test_stand_by_their_least_place_not_by_the_readings(self):
        self.assertEqual(last(start(6), over(5, 4), over(3, 2), over(1, 0), blocks()),
                         [3, 2, 0, 1, 2, 2, 3, 2, 4, 5])

    def test_a_reading_makes_blocks_one(self):
        asked = ask(start(6), over(0, 3), over(1, 4), over(2, 5), blocks(), over(3, 4), blocks(), over(0, 5), blocks())
        self.assertEqual(asked[4::2], [[3, 2, 0, 3, 2, 1, 4, 2, 2, 5], [2, 4, 0, 1, 3, 4, 2, 2, 5],
                                       [1, 6, 0, 1, 2, 3, 4, 5]])

    def test_dropping_a_reading_parts_a_block(self):
        asked = ask(start(4), over(0, 1), over(2, 3), over(1, 2), blocks(), drop(3), blocks(), drop(1), blocks())
        self.assertEqual(asked[4::2], [[1, 4, 0, 1, 2, 3], [2, 2, 0, 1, 2, 2, 3], [3, 1, 0, 1, 1, 2, 2, 3]])

    def test_stays_tied_by_another_reading(self):
        asked = ask(over(0, 1), over(1, 0), drop(1), blocks(), drop(2), blocks())
        self.assertEqual(asked[3::2], [[1, 2, 0, 1], [2, 1, 0, 1, 1]])

    def test_letters_prices_and_what_is_known_tie_nothing(self):
        asked = ask(start(3), known(0, 2), known(1, 2), known(2, 1), read((0, 1, 99)), read((1, 1, 99)), blocks())
        self.assertEqual(asked[-1], [3, 1, 0, 1, 1, 1, 2])
        self.assertEqual(last(start(3), known(1, 0), read((0, 1, 1), (1, 0, 99), (2, 0, 1)), blocks()), [1, 3, 0, 1, 2])

    def test_a_refused_reading_ties_nothing(self):
        self.assertEqual(last(read((0, 0, 1), (1, 2, 1)), blocks()), [2, 1, 0, 1, 1])
        self.assertEqual(last(*[over(0)] * 10, over(0, 1), blocks()), [2, 1, 0, 1, 1])

    def test_start_parts_all(self):
        self.assertEqual(last(over(0, 1), start(2), blocks()), [2, 1, 0, 1, 1])

    def test_blocks_can_be_looked_at_one_by_one(self):
        facts = [start(5), known(1, 2), known(3, 0), known(4, 2)]
        low = [read((0, 0, 5), (1, 1, 4)), read((0, 1, 3), (1, 1, 6)), read((1, 0, 2), (0, 0, 7))]
        high = [read((2, 1, 5), (3, 1, 2)), read((3, 0, 3), (4, 1, 6)), read((2, 0, 9), (4, 1, 8)),
                read((2, 1, 7), (4, 1, 4))]
        self.assertEqual(last(*facts, *low, *high, blocks()), [2, 2, 0, 1, 3, 2, 3, 4])
        least = [last(*facts, *readings, best())[0] for readings in (low, high, low + high)]
        self.assertEqual(least[2], least[0] + least[1])
        self.assertGreater(min(least), 0)
        fewest = [last(*facts, *readings, thrown())[0] for readings in (low, high, low + high)]
        self.assertEqual(fewest[2], fewest[0] + fewest[1])
        self.assertGreater(min(fewest), 0)


class Thrown(unittest.TestCase):
    def test_no_reading(self):
        self.assertEqual(ask(thrown()), [[0]])
        self.assertEqual(last(start(6), known(0, 1), known(5, 2), thrown()), [0])

    def test_readings_that_fit(self):
        self.assertEqual(last(strand("01"), thrown()), [0])
        self.assertEqual(last(strand("01"), strand("01"), strand("10"), thrown()), [0])
        self.assertEqual(last(start(1), read((0, 0, 1)), read((0, 1, 1)), thrown()), [0])

    def test_one(self):
        self.assertEqual(last(strand("00"), strand("00"), strand("01"), strand("10"), strand("10"), thrown()), [1, 3])
        self.assertEqual(last(start(1), known(0, 0), read((0, 0, 1)), read((0, 1, 1)), thrown()), [1, 2])

    def test_several(self):
        calls = [strand(letters) for letters in ("00", "01", "10", "11", "00", "10")]
        self.assertEqual(last(*calls, thrown()), [2, 2, 4])
        calls = [strand(letters) for letters in ("11", "00", "01", "00", "10", "10", "10", "11", "00", "01")]
        self.assertEqual(last(*calls, thrown()), [4, 1, 3, 8, 10])

    def test_of_as_few_the_first(self):
        self.assertEqual(last(strand("00"), strand("01"), strand("10"), thrown()), [1, 1])
        self.assertEqual(last(strand("11"), strand("10"), strand("01"), thrown()), [1, 1])
        self.assertEqual(last(strand("10"), strand("10"), strand("01"), strand("00"), thrown()), [1, 3])
        self.assertEqual(last(strand("00"), strand("01"), strand("10"), strand("11"), thrown()), [2, 1, 2])

    def test_the_first_goes_by_the_first_number_that_differs(self):
        # Two of each of three strands: either two may go.
        for three in (("00", "01", "10"), ("10", "01", "00"), ("11", "00", "01")):
            calls = [strand(three[which]) for which in (0, 1, 1, 2, 2, 0)]
            self.assertEqual(last(*calls, thrown()), [2, 1, 6])
        # 1, 2, 7 or 1, 3, 4 or 1, 5, 6 may go: the second number tells.
        calls = [start(3), known(2, 0), read((2, 1, 1))]
        calls = calls + [strand(letters) for letters in ("11", "00", "00", "01", "01", "11")]
        self.assertEqual(last(*calls, thrown()), [3, 1, 2, 7])

    def test_fewer_go_ahead_of_the_first(self):
        # 1 and 2 may go instead, and 1 is less than 5, but they are two.
        self.assertEqual(last(strand("01"), strand("01"), strand("00"), strand("00"), strand("11"), thrown()), [1, 5])

    def test_prices_do_not_count(self):
        self.assertEqual(last(strand("00", 99), strand("01", 1), strand("10", 1), thrown()), [1, 1])
        facts = [known(0, 2), known(1, 2)]
        calls = facts + [strand("00", 1), strand("11", 1), strand("01", 99)]
        # 01 and 10 cost the least, but two readings go with them.
        self.assertEqual(ask(*calls, best(), thrown())[-2:], [[2, 1, 0, 1, 1, 0], [1, 3]])

    def test_a_reading_goes_for_any_one_mark(self):
        calls = [start(6)] + [known(place, 0) for place in range(6)]
        for place in range(6):
            marks = [(other, int(other == place), 1) for other in range(6)]
            self.assertEqual(last(*calls, read(*marks), thrown()), [1, 1])

    def test_what_is_known_forces_some(self):
        three = [strand("00"), strand("01"), strand("10")]
        self.assertEqual(last(known(0, 0), *three, thrown()), [1, 3])
        self.assertEqual(last(known(0, 1), *three, thrown()), [2, 1, 2])
        self.assertEqual(last(known(1, 0), *three, thrown()), [1, 2])
        self.assertEqual(last(known(0, 1), known(1, 1), *three, thrown()), [3, 1, 2, 3])
        self.assertEqual(last(known(0, 2), *three, thrown()), [1, 1])
        # With 00 and 11 two go, with 01 and 10 the first alone.
        self.assertEqual(last(known(0, 2), known(1, 2), *three, thrown()), [1, 1])
        self.assertEqual(last(known(0, 2), known(1, 2), strand("01"), strand("01"), strand("00"), thrown()), [1, 3])

    def test_all_ten(self):
        calls = [start(1), known(0, 0)] + [read((0, 1, 1))] * 10
        self.assertEqual(last(*calls, thrown()), [10] + list(range(1, 11)))

    def test_numbers_after_drop(self):
        calls = [strand("00"), strand("00"), strand("01"), strand("11"), strand("00"), strand("10"), strand("11")]
        asked = ask(*calls, thrown(), drop(4), thrown(), drop(1), drop(2), thrown(), drop(3), thrown())
        self.assertEqual(asked[7], [2, 3, 6])
        self.assertEqual(asked[9], [2, 3, 6])
        # 01, 00, 10, 11 are left under 3, 5, 6, 7.
        self.assertEqual(asked[12], [2, 3, 5])
        self.assertEqual(asked[14], [1, 5])

    def test_a_number_above_ten(self):
        calls = [start(1), known(0, 1)] + [read((0, 1, 1))] * 10 + [drop(2), read((0, 0, 1)), drop(5), read((0, 0, 1))]
        self.assertEqual(last(*calls, thrown()), [2, 11, 12])

    def test_is_0_just_if_the_best_pairs_cost_nothing(self):
        for letters in product(("00", "01", "10", "11"), repeat=3):
            asked = ask(*[strand(one) for one in letters], best(), thrown())
            self.assertEqual(asked[-1][0] == 0, asked[-2][0] == 0, letters)

    def test_throws_nothing_away_itself(self):
        asked = ask(strand("00"), strand("01"), strand("10"), shows(), thrown(), thrown(), shows(), drop(1), thrown())
        self.assertEqual(asked[4], asked[5])
        self.assertEqual(asked[3], asked[6])
        self.assertEqual(asked[7:], [[2], [0]])


if __name__ == "__main__":
    unittest.main()
