"""Point 2: read and drop, what they set, and what they refuse."""

import unittest

from tests.helper import TOP, ask, best, drop, known, last, read, sides, start

MARK = (0, 1, 5)
# Of two places: every reason for -1.
WRONG = (
    read(),
    read((2, 0, 1)),
    read((3, 0, 1)),
    read((TOP, 0, 1)),
    read((0, 2, 1)),
    read((0, 3, 1)),
    read((0, TOP, 1)),
    read((0, 0, 0)),
    read((0, 0, 100)),
    read((0, 0, 101)),
    read((0, 0, TOP)),
    read((0, 0, 1), (0, 0, 1)),
    read((0, 0, 1), (0, 1, 1)),
    read((1, 1, 1), (0, 0, 1), (1, 1, 2)),
    read((0, 0, 1), (2, 0, 1)),
    read((2, 0, 1), (0, 0, 1)),
    read((0, 0, 1), (1, 2, 1)),
    read((0, 2, 1), (1, 0, 1)),
    read((0, 0, 1), (1, 0, 0)),
    read((0, 0, 100), (1, 0, 1)),
    read((TOP, TOP, TOP)),
    read(*[(0, 0, 1)] * 12),
    read(*[(place, 0, 1) for place in range(12)]),
)


class Read(unittest.TestCase):
    def test_answers_numbers_from_1_on(self):
        self.assertEqual(ask(read(MARK), read(MARK), read((1, 0, 2))), [[1], [2], [3]])

    def test_takes_every_place_letter_and_price_there_is(self):
        for n in range(1, 7):
            self.assertEqual(last(start(n), read(*[(place, place % 2, 1) for place in range(n)])), [1])
        for letter in (0, 1):
            for price in (1, 2, 98, 99):
                self.assertEqual(ask(read((1, letter, price))), [[1]])

    def test_takes_marks_in_any_order_of_places(self):
        asked = ask(start(3), read((2, 1, 9), (0, 0, 8), (1, 1, 7)), known(0, 1), known(1, 1), known(2, 0), best())
        self.assertEqual(asked[-1], [17, 1, 1, 1, 0, 1, 1, 0])

    def test_keeps_place_letter_and_price_apart(self):
        asked = ask(start(2), read((1, 0, 3)), known(0, 0), known(1, 1), best(), known(0, 1), known(1, 0), best())
        self.assertEqual(asked[4], [3, 1, 0, 1, 0, 1])
        self.assertEqual(asked[7], [0, 1, 1, 0, 1, 0])

    def test_each_price_counts(self):
        for price in (1, 99):
            self.assertEqual(last(start(1), known(0, 0), read((0, 1, price)), best()), [price, 1, 0, 0])

    def test_the_same_reading_twice_counts_twice(self):
        self.assertEqual(last(start(1), known(0, 0), read((0, 1, 4)), read((0, 1, 4)), best()), [8, 1, 0, 0])

    def test_refuses_what_is_not_as_told(self):
        for call in WRONG:
            self.assertEqual(ask(call), [[-1]], call)

    def test_refuses_by_the_places_there_are_now(self):
        asked = ask(start(6), read((5, 0, 1)), start(5), read((5, 0, 1)), read((4, 0, 1)))
        self.assertEqual(asked, [[6], [1], [5], [-1], [1]])

    def test_refuses_what_is_wrong_at_any_mark(self):
        good = [(place, 0, 1) for place in range(6)]
        for place in range(6):
            for mark in ((6, 0, 1), ((place + 1) % 6, 0, 1), (place, 2, 1), (place, 0, 0), (place, 0, 100)):
                marks = good[:place] + [mark] + good[place + 1:]
                self.assertEqual(ask(start(6), read(*marks), read(*good)), [[6], [-1], [1]], marks)

    def test_takes_ten_readings_and_refuses_the_eleventh(self):
        asked = ask(*[read(MARK)] * 12)
        self.assertEqual(asked, [[number] for number in range(1, 11)] + [[-5], [-5]])

    def test_all_is_as_it_was_after_minus_5(self):
        calls = [known(0, 0)] + [read((0, 1, 1))] * 10 + [read((0, 1, 50)), best(), sides(), drop(11)]
        asked = ask(*calls)
        self.assertEqual(asked[11:13], [[-5], [10, 3, 0, 0, 0, 0]])
        self.assertEqual(asked[13], [10] + [n for number in range(1, 11) for n in (number, 0, 1)])
        self.assertEqual(asked[14], [-3])

    def test_minus_5_uses_up_no_number(self):
        calls = [read(MARK)] * 10 + [read(MARK), read(MARK), drop(4), read(MARK), read(MARK)]
        self.assertEqual(ask(*calls)[10:], [[-5], [-5], [9], [11], [-5]])

    def test_there_is_room_again_after_a_drop(self):
        calls = [read(MARK)] * 10 + [drop(1), drop(2), read(MARK), read(MARK), read(MARK)]
        self.assertEqual(ask(*calls)[10:], [[9], [8], [11], [12], [-5]])

    def test_of_two_refusals_minus_1_is_answered(self):
        for call in WRONG:
            calls = [read(MARK)] * 10 + [call, read(MARK), sides()]
            asked = ask(*calls)
            self.assertEqual(asked[10:12], [[-1], [-5]], call)
            self.assertEqual(asked[12][0], 10)

    def test_all_is_as_it_was_after_minus_1(self):
        for call in WRONG:
            asked = ask(known(1, 0), read(MARK), call, best(), sides(), read(MARK), drop(3))
            self.assertEqual(asked[2:], [[-1], [0, 2, 0, 0, 1, 0], [1, 1, 1, 0], [2], [-3]], call)


class Drop(unittest.TestCase):
    def test_answers_how_many_readings_there_are_then(self):
        asked = ask(read(MARK), read(MARK), read(MARK), drop(2), drop(1), drop(3))
        self.assertEqual(asked[3:], [[2], [1], [0]])

    def test_that_reading_alone_is_gone(self):
        marks = [(0, 1, 10), (0, 1, 20), (0, 1, 30)]
        calls = [start(1), known(0, 0)] + [read(mark) for mark in marks]
        self.assertEqual(last(*calls, drop(1), sides()), [2, 2, 0, 20, 3, 0, 30])
        self.assertEqual(last(*calls, drop(2), sides()), [2, 1, 0, 10, 3, 0, 30])
        self.assertEqual(last(*calls, drop(3), sides()), [2, 1, 0, 10, 2, 0, 20])

    def test_what_is_gone_costs_nothing(self):
        asked = ask(start(1), known(0, 0), read((0, 1, 10)), read((0, 1, 20)), best(), drop(1), best(), drop(2), best())
        self.assertEqual(asked[4::2], [[30, 1, 0, 0], [20, 1, 0, 0], [0, 1, 0, 0]])

    def test_goes_by_number_when_others_are_gone(self):
        asked = ask(start(1), known(0, 0), read((0, 1, 1)), read((0, 1, 2)), read((0, 1, 3)), drop(1), drop(2), sides())
        self.assertEqual(asked[5:], [[2], [1], [1, 3, 0, 3]])

    def test_no_number_is_used_twice(self):
        asked = ask(read(MARK), drop(1), read(MARK), read(MARK), drop(3), read(MARK), drop(2), drop(4), read(MARK))
        self.assertEqual(asked, [[1], [0], [2], [3], [1], [4], [1], [0], [5]])

    def test_refuses_a_reading_that_is_not_there(self):
        for number in (0, 1, 2, 10, TOP):
            self.assertEqual(ask(drop(number)), [[-3]])
        for number in (0, 3, 4, TOP):
            self.assertEqual(last(read(MARK), read(MARK), drop(number)), [-3])

    def test_refuses_a_number_that_was_used_and_is_gone(self):
        asked = ask(read(MARK), read(MARK), drop(1), drop(1), read(MARK), drop(1), drop(3), drop(3), drop(2), drop(2))
        self.assertEqual(asked[2:], [[1], [-3], [3], [-3], [1], [-3], [0], [-3]])

    def test_refuses_a_number_from_before_start(self):
        self.assertEqual(ask(read(MARK), start(2), drop(1)), [[1], [2], [-3]])

    def test_all_is_as_it_was_after_a_refusal(self):
        for number in (0, 3, TOP):
            asked = ask(start(1), known(0, 0), read((0, 1, 6)), read((0, 0, 7)), drop(number), best(), sides(),
                        read(MARK))
            self.assertEqual(asked[4:], [[-3], [6, 1, 0, 0], [2, 1, 0, 6, 2, 0, 0], [3]])

    def test_leaves_what_is_known(self):
        self.assertEqual(last(known(0, 1), known(1, 2), read(MARK), drop(1), best()), [0, 1, 1, 0, 1, 1])


if __name__ == "__main__":
    unittest.main()
