"""Point 1: start and known, what they set, and what they refuse."""

import unittest

from tests.helper import TOP, ask, best, drop, known, last, nth, read, sides, start

MARK = (0, 1, 5)
PAIRS_OF = {1: 3, 2: 10, 3: 36, 4: 136, 5: 528, 6: 2080}


class AtTheBeginning(unittest.TestCase):
    def test_there_are_two_places(self):
        self.assertEqual(ask(known(1, 0), known(2, 0)), [[0], [-1]])

    def test_nothing_is_known_and_all_pairs_are_best(self):
        self.assertEqual(ask(best()), [[0, 10, 0, 0, 0, 0]])

    def test_there_is_no_reading(self):
        self.assertEqual(ask(sides(), drop(1)), [[0], [-3]])

    def test_a_pair_can_be_asked_for(self):
        self.assertEqual(ask(nth(9), nth(10)), [[1, 1, 1, 1], [-3]])

    def test_the_first_number_is_1(self):
        self.assertEqual(ask(read(MARK)), [[1]])


class Start(unittest.TestCase):
    def test_answers_n(self):
        for n in range(1, 7):
            self.assertEqual(ask(start(n)), [[n]])

    def test_makes_n_places(self):
        for n in range(1, 7):
            self.assertEqual(ask(start(n), known(n - 1, 2), known(n, 2)), [[n], [2], [-1]])
            self.assertEqual(ask(start(n), read((n - 1, 0, 1)), read((n, 0, 1))), [[n], [1], [-1]])

    def test_each_n_has_its_pairs(self):
        for n, count in PAIRS_OF.items():
            self.assertEqual(last(start(n), best()), [0, count] + [0] * (2 * n))

    def test_refuses_an_n_that_is_not_1_to_6(self):
        for n in (0, 7, 8, 255, 256, TOP - 1, TOP):
            self.assertEqual(ask(start(n)), [[-1]])

    def test_forgets_what_was_known(self):
        for fact in (0, 1, 2):
            self.assertEqual(last(known(0, fact), known(1, fact), start(2), best()), [0, 10, 0, 0, 0, 0])

    def test_forgets_the_readings(self):
        asked = ask(start(3), read(MARK), read(MARK), start(3), sides(), drop(1), drop(2), best())
        self.assertEqual(asked[4:], [[0], [-3], [-3], [0, 36] + [0] * 6])

    def test_counts_the_readings_from_1_again(self):
        asked = ask(read(MARK), read(MARK), start(2), read(MARK), read(MARK))
        self.assertEqual(asked, [[1], [2], [2], [1], [2]])

    def test_makes_room_for_ten_readings_again(self):
        calls = [read(MARK)] * 10 + [start(1)] + [read(MARK)] * 11
        self.assertEqual(ask(*calls)[11:], [[number] for number in range(1, 11)] + [[-5]])

    def test_can_make_fewer_and_more_places(self):
        asked = ask(start(6), start(1), known(1, 0), start(4), known(3, 0), known(4, 0))
        self.assertEqual(asked, [[6], [1], [-1], [4], [0], [-1]])

    def test_all_is_as_it_was_after_a_refusal(self):
        for n in (0, 7, TOP):
            asked = ask(start(3), known(1, 1), read((0, 1, 7)), start(n), sides(), best(), known(2, 2), known(3, 2),
                        read((2, 1, 1)))
            self.assertEqual(asked[3:6], [[-1], [1, 1, 1, 0], [0, 7, 0, 1, 0, 1, 1, 0]])
            self.assertEqual(asked[6:], [[2], [-1], [2]])

    def test_the_two_places_stay_after_a_refusal_at_the_beginning(self):
        self.assertEqual(ask(start(0), best(), start(7), best()), [[-1], [0, 10, 0, 0, 0, 0]] * 2)


class Known(unittest.TestCase):
    def test_answers_k(self):
        for fact in (0, 1, 2, 3):
            self.assertEqual(ask(known(0, fact), known(1, fact)), [[fact], [fact]])

    def test_0_is_0_on_both(self):
        self.assertEqual(last(start(1), known(0, 0), best()), [0, 1, 0, 0])

    def test_1_is_1_on_both(self):
        self.assertEqual(last(start(1), known(0, 1), best()), [0, 1, 1, 1])

    def test_2_is_one_of_each(self):
        self.assertEqual(last(start(1), known(0, 2), best()), [0, 1, 0, 1])

    def test_3_is_nothing(self):
        asked = ask(start(1), known(0, 3), best(), nth(0), nth(1), nth(2), nth(3))
        self.assertEqual(asked[2:], [[0, 3, 0, 0], [0, 0], [0, 1], [1, 1], [-3]])

    def test_is_of_that_place_alone(self):
        self.assertEqual(last(start(3), known(1, 1), best()), [0, 10, 0, 1, 0, 0, 1, 0])
        self.assertEqual(last(start(3), known(2, 1), best()), [0, 10, 0, 0, 1, 0, 0, 1])
        self.assertEqual(last(start(3), known(0, 1), best()), [0, 10, 1, 0, 0, 1, 0, 0])

    def test_each_place_has_its_own(self):
        asked = last(start(4), known(0, 1), known(1, 0), known(2, 2), known(3, 1), best())
        self.assertEqual(asked, [0, 1, 1, 0, 0, 1, 1, 0, 1, 1])

    def test_what_is_said_later_holds(self):
        asked = ask(start(1), known(0, 0), known(0, 1), best(), known(0, 2), best(), known(0, 3), best())
        self.assertEqual(asked[3::2], [[0, 1, 1, 1], [0, 1, 0, 1], [0, 3, 0, 0]])

    def test_stands_against_what_was_read(self):
        asked = ask(start(1), read((0, 1, 5)), known(0, 0), best(), known(0, 1), best(), known(0, 2), best())
        self.assertEqual(asked[3::2], [[5, 1, 0, 0], [0, 1, 1, 1], [0, 1, 0, 1]])

    def test_leaves_the_readings(self):
        asked = ask(read((0, 1, 5)), known(0, 0), sides(), read(MARK))
        self.assertEqual(asked, [[1], [0], [1, 1, 0, 5], [2]])

    def test_refuses_a_place_that_is_not_there(self):
        for n in range(1, 7):
            for place in (n, n + 1, 255, TOP):
                self.assertEqual(last(start(n), known(place, 0)), [-1])

    def test_refuses_a_k_above_3(self):
        for fact in (4, 5, 255, TOP):
            self.assertEqual(ask(known(0, fact), known(1, fact)), [[-1], [-1]])

    def test_refuses_both_at_once(self):
        self.assertEqual(ask(known(2, 4), known(TOP, TOP)), [[-1], [-1]])

    def test_all_is_as_it_was_after_a_refusal(self):
        for place, fact in ((0, 4), (1, TOP), (2, 0), (TOP, 1), (2, 4)):
            asked = ask(known(0, 1), known(1, 2), read((0, 0, 9)), known(place, fact), best(), sides(), read(MARK))
            self.assertEqual(asked[3:], [[-1], [9, 1, 1, 0, 1, 1], [1, 1, 0, 9], [2]])


if __name__ == "__main__":
    unittest.main()
