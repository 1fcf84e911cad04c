"""Tests of narrowest: point 2, its refusals of point 1, and what holds of it."""

import unittest

from cases import EDGES, NOT_AS_TOLD, ReadOnlyList, is_plain_answer, lines, long_lines, sets_of
from middleseats.parties import joined, narrowest


def narrowest_by_windows(seats, places):
    """Found otherwise: a window over the line, made wider until a set within it wins."""
    for wide in range(101):
        found = []
        for s, own in sets_of(seats):
            won = sum(seats[i] for i in own)
            if won > sum(seats) - won and all(abs(places[a] - places[b]) <= wide for a in own for b in own):
                found.append((won, s))
        if found:
            won, s = sorted(found)[0]
            return [wide, s, won]


class OrdinaryTest(unittest.TestCase):
    def test_two_of_three(self):
        self.assertEqual(narrowest([3, 3, 3], [0, 50, 80]), [30, 0b110, 6])
        self.assertEqual(narrowest([3, 3, 3], [0, 30, 80]), [30, 0b011, 6])

    def test_one_wins_alone(self):
        self.assertEqual(narrowest([1, 9, 2], [10, 20, 30]), [0, 0b010, 9])

    def test_width_counts_ahead_of_seats(self):
        self.assertEqual(narrowest([4, 4, 3], [0, 5, 12]), [5, 0b011, 8])
        self.assertEqual(narrowest([9, 6, 2, 1], [50, 51, 0, 0]), [1, 0b0011, 15])

    def test_seats_count_ahead_of_the_number_of_the_set(self):
        self.assertEqual(narrowest([5, 4, 2], [50, 50, 50]), [0, 0b110, 6])
        self.assertEqual(narrowest([4, 3, 2], [10, 20, 30]), [10, 0b110, 5])

    def test_width_counts_ahead_of_the_number_of_the_set(self):
        self.assertEqual(narrowest([2, 2, 2, 3], [0, 40, 80, 81]), [1, 0b1100, 5])

    def test_places_count_not_the_order_told(self):
        self.assertEqual(narrowest([3, 3, 3], [50, 0, 80]), [30, 0b101, 6])
        self.assertEqual(narrowest([3, 3, 3], [80, 50, 0]), [30, 0b011, 6])

    def test_more_parties_may_be_narrower(self):
        self.assertEqual(narrowest([4, 2, 2, 3], [0, 50, 55, 60]), [10, 0b1110, 7])
        self.assertEqual(narrowest([2, 2, 2, 5], [20, 21, 22, 90]), [2, 0b0111, 6])

    def test_as_by_windows(self):
        for seats, places in lines(4, (1, 2, 3), (0, 1, 3)):
            self.assertEqual(narrowest(seats, places), narrowest_by_windows(seats, places), (seats, places))

    def test_as_by_windows_of_long_lines(self):
        for seats, places in EDGES + list(long_lines()):
            self.assertEqual(narrowest(seats, places), narrowest_by_windows(seats, places), (seats, places))


class EdgeTest(unittest.TestCase):
    def test_one_party(self):
        for seats in (1, 200):
            for place in (0, 50, 100):
                self.assertEqual(narrowest([seats], [place]), [0, 0b1, seats])

    def test_two_at_one_place(self):
        self.assertEqual(narrowest([3, 9], [50, 50]), [0, 0b10, 9])
        self.assertEqual(narrowest([5, 5], [50, 50]), [0, 0b11, 10])
        self.assertEqual(narrowest([3, 3, 3], [10, 30, 10]), [0, 0b101, 6])

    def test_one_at_the_place_of_another_is_left_out(self):
        self.assertEqual(narrowest([3, 2, 3, 3], [10, 10, 30, 90]), [20, 0b0101, 6])
        self.assertEqual(narrowest([9, 1], [50, 50]), [0, 0b01, 9])

    def test_one_between_is_left_out(self):
        self.assertEqual(narrowest([5, 1, 5, 3], [40, 45, 50, 100]), [10, 0b0101, 10])
        self.assertEqual(narrowest([5, 5, 3, 1], [50, 40, 100, 45]), [10, 0b0011, 10])

    def test_just_half_does_not_win(self):
        self.assertEqual(narrowest([5, 5], [0, 100]), [100, 0b11, 10])
        self.assertEqual(narrowest([2, 1, 1], [10, 20, 40]), [10, 0b011, 3])
        self.assertEqual(narrowest([2, 2, 4], [10, 10, 40]), [30, 0b101, 6])

    def test_one_seat_over_half_wins(self):
        self.assertEqual(narrowest([100, 99], [0, 100]), [0, 0b01, 100])
        self.assertEqual(narrowest([199, 200], [0, 100]), [0, 0b10, 200])

    def test_those_at_both_ends(self):
        self.assertEqual(narrowest([5, 1, 5, 1], [0, 50, 100, 50]), [50, 0b1011, 7])
        self.assertEqual(narrowest([4, 1, 1, 4], [0, 1, 99, 100]), [99, 0b0111, 6])
        self.assertEqual(narrowest([5, 1, 1, 2, 5], [0, 0, 100, 100, 100]), [0, 0b11100, 8])
        self.assertEqual(narrowest([6, 1, 6], [0, 50, 100]), [50, 0b011, 7])

    def test_a_tie_of_seats(self):
        self.assertEqual(narrowest([3, 3, 3], [10, 20, 30]), [10, 0b011, 6])
        self.assertEqual(narrowest([3, 3, 3], [30, 20, 10]), [10, 0b011, 6])
        self.assertEqual(narrowest([3, 3, 3], [10, 30, 20]), [10, 0b101, 6])
        self.assertEqual(narrowest([2, 2, 2], [50, 50, 50]), [0, 0b011, 4])
        self.assertEqual(narrowest([4, 1, 3, 2], [50, 50, 50, 50]), [0, 0b1001, 6])

    def test_place_0_and_place_100(self):
        self.assertEqual(narrowest([9, 1, 1], [0, 50, 100]), [0, 0b001, 9])
        self.assertEqual(narrowest([1, 1, 9], [0, 50, 100]), [0, 0b100, 9])
        self.assertEqual(narrowest([4, 4], [100, 0]), [100, 0b11, 8])

    def test_seven_parties(self):
        self.assertEqual(narrowest([200] * 7, [0, 10, 30, 60, 70, 90, 100]), [40, 0b1111000, 800])
        self.assertEqual(narrowest([200] * 7, [0, 100, 0, 100, 0, 100, 50]), [50, 0b1010101, 800])
        self.assertEqual(narrowest([1] * 7, [50] * 7), [0, 0b0001111, 4])
        self.assertEqual(narrowest([1, 1, 1, 1, 1, 1, 200], [0, 10, 20, 30, 40, 50, 60]), [0, 0b1000000, 200])


class RefusalTest(unittest.TestCase):
    def test_not_as_told(self):
        for name, seats, places in NOT_AS_TOLD:
            with self.subTest(name):
                self.assertEqual(narrowest(seats, places), [-22])

    def test_what_is_just_within_is_not_refused(self):
        self.assertEqual(narrowest([1, 200], [0, 100]), [0, 0b10, 200])
        self.assertEqual(narrowest([200, 1], [100, 0]), [0, 0b01, 200])
        self.assertEqual(narrowest([200, 1, 1, 1, 1, 1, 1], [100] * 7), [0, 0b1, 200])


class HoldsTest(unittest.TestCase):
    def test_no_set_that_wins_is_narrower_nor_as_wide_with_fewer_seats(self):
        for seats, places in EDGES + list(long_lines()):
            wide, s, won = narrowest(seats, places)
            for other in range(2 ** len(seats)):
                row, other_wide, other_won = joined(other, seats, places)
                if 2 * other_won > sum(seats):
                    self.assertLessEqual((wide, won, s), (other_wide, other_won, other), (seats, places))

    def test_it_wins_and_is_as_told(self):
        for seats, places in EDGES + list(long_lines()):
            wide, s, won = narrowest(seats, places)
            self.assertEqual(joined(s, seats, places)[1:], [wide, won], (seats, places))
            self.assertGreater(2 * won, sum(seats), (seats, places))

    def test_turned_about(self):
        for seats, places in EDGES + list(long_lines()):
            turned = [100 - place for place in places]
            self.assertEqual(narrowest(seats, turned), narrowest(seats, places), (seats, places))


class CallTest(unittest.TestCase):
    CALLS = EDGES + [case[1:] for case in NOT_AS_TOLD]

    def test_arguments_by_name(self):
        self.assertEqual(narrowest(places=[10, 20], seats=[2, 3]), [0, 0b10, 3])

    def test_kind_of_the_answer(self):
        for seats, places in self.CALLS:
            answer = narrowest(seats, places)
            self.assertTrue(is_plain_answer(answer), answer)
            self.assertEqual(len(answer), 1 if answer[0] < 0 else 3)

    def test_what_is_handed_in_is_not_changed(self):
        for seats, places in self.CALLS:
            handed_seats, handed_places = ReadOnlyList(seats), ReadOnlyList(places)
            narrowest(handed_seats, handed_places)
            self.assertEqual((handed_seats, handed_places), (seats, places))

    def test_a_second_call_answers_as_the_first(self):
        first = [narrowest(seats, places) for seats, places in self.CALLS]
        kept = [list(answer) for answer in first]
        for answer in first:
            answer.append(99)
        self.assertEqual([narrowest(seats, places) for seats, places in self.CALLS], kept)


if __name__ == "__main__":
    unittest.main()
