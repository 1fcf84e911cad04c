"""Tests of middle: point 2, its refusals of point 1, and what holds of it."""

import unittest

from cases import EDGES, NOT_AS_TOLD, ReadOnlyList, is_plain_answer, lines, long_lines, middle_by_seats
from middleseats.parties import joined, middle


class OrdinaryTest(unittest.TestCase):
    def test_one_of_three(self):
        self.assertEqual(middle([10, 10, 10], [20, 50, 80]), [1, 1])

    def test_places_count_not_the_order_told(self):
        self.assertEqual(middle([10, 10, 10], [50, 80, 20]), [1, 0])
        self.assertEqual(middle([10, 10, 10], [80, 20, 50]), [1, 2])

    def test_seats_count_not_parties(self):
        self.assertEqual(middle([1, 1, 1, 4], [10, 20, 30, 40]), [1, 3])
        self.assertEqual(middle([4, 1, 1, 1], [10, 20, 30, 40]), [1, 0])

    def test_just_over_half_on_the_lesser_side(self):
        self.assertEqual(middle([3, 2], [10, 20]), [1, 0])

    def test_just_over_half_on_the_greater_side(self):
        self.assertEqual(middle([2, 3], [10, 20]), [1, 1])

    def test_distance_does_not_count(self):
        self.assertEqual(middle([5, 5, 5], [0, 1, 100]), [1, 1])
        self.assertEqual(middle([5, 5, 5], [0, 99, 100]), [1, 1])

    def test_as_by_seats(self):
        for seats, places in lines(4, (1, 2, 3), (0, 1, 2)):
            self.assertEqual(middle(seats, places), middle_by_seats(seats, places), (seats, places))

    def test_as_by_seats_at_great_numbers(self):
        for seats, places in lines(3, (1, 99, 100, 101, 199, 200), (0, 1, 99, 100)):
            self.assertEqual(middle(seats, places), middle_by_seats(seats, places), (seats, places))

    def test_as_by_seats_of_long_lines(self):
        for seats, places in EDGES + list(long_lines()):
            self.assertEqual(middle(seats, places), middle_by_seats(seats, places), (seats, places))


class EdgeTest(unittest.TestCase):
    def test_one_party(self):
        for seats in (1, 2, 199, 200):
            for place in (0, 1, 50, 99, 100):
                self.assertEqual(middle([seats], [place]), [1, 0])

    def test_two_at_one_place(self):
        self.assertEqual(middle([3, 9], [50, 50]), [2, 0, 1])
        self.assertEqual(middle([5, 1, 5, 1], [10, 50, 90, 50]), [2, 1, 3])
        self.assertEqual(middle([1, 5, 5], [10, 10, 20]), [2, 0, 1])

    def test_two_at_one_place_off_the_middle(self):
        self.assertEqual(middle([2, 2, 5], [10, 10, 20]), [1, 2])

    def test_just_half_on_either_side(self):
        self.assertEqual(middle([5, 5], [0, 100]), [2, 0, 1])
        self.assertEqual(middle([4, 3, 1], [10, 20, 30]), [2, 0, 1])
        self.assertEqual(middle([1, 3, 4], [10, 20, 30]), [2, 1, 2])

    def test_one_seat_from_half(self):
        self.assertEqual(middle([4, 4, 1], [10, 20, 30]), [1, 1])
        self.assertEqual(middle([5, 3, 1], [10, 20, 30]), [1, 0])
        self.assertEqual(middle([100, 99], [10, 20]), [1, 0])
        self.assertEqual(middle([199, 200], [10, 20]), [1, 1])

    def test_two_in_the_middle_rise_by_number(self):
        self.assertEqual(middle([1, 1, 1, 1], [60, 20, 80, 40]), [2, 0, 3])
        self.assertEqual(middle([1, 1, 1, 1], [20, 60, 40, 80]), [2, 1, 2])

    def test_more_than_two_in_the_middle(self):
        self.assertEqual(middle([2, 2, 1, 1, 2], [60, 40, 60, 40, 60]), [3, 0, 2, 4])
        self.assertEqual(middle([2, 2, 1, 1], [60, 40, 60, 40]), [4, 0, 1, 2, 3])

    def test_place_0_and_place_100(self):
        self.assertEqual(middle([3, 1, 1], [0, 50, 100]), [1, 0])
        self.assertEqual(middle([1, 1, 3], [0, 50, 100]), [1, 2])
        self.assertEqual(middle([1, 1], [100, 0]), [2, 0, 1])

    def test_seven_parties(self):
        self.assertEqual(middle([1] * 7, [70, 60, 50, 40, 30, 20, 10]), [1, 3])
        self.assertEqual(middle([200] * 7, [50] * 7), [7, 0, 1, 2, 3, 4, 5, 6])
        self.assertEqual(middle([200] * 7, [0, 100, 0, 100, 0, 100, 50]), [1, 6])
        self.assertEqual(middle([1, 1, 1, 1, 1, 1, 6], [6, 5, 4, 3, 2, 1, 0]), [2, 5, 6])


class RefusalTest(unittest.TestCase):
    def test_not_as_told(self):
        for name, seats, places in NOT_AS_TOLD:
            with self.subTest(name):
                self.assertEqual(middle(seats, places), [-22])

    def test_what_is_just_within_is_not_refused(self):
        self.assertEqual(middle([1, 200], [0, 100]), [1, 1])
        self.assertEqual(middle([200, 1], [100, 0]), [1, 0])
        self.assertEqual(middle([1] * 7, [100] * 7), [7, 0, 1, 2, 3, 4, 5, 6])


class HoldsTest(unittest.TestCase):
    def test_somebody_is_always_in_the_middle(self):
        for seats, places in EDGES + list(long_lines()) + list(lines(4, (1, 2), (0, 1, 2))):
            self.assertGreaterEqual(middle(seats, places)[0], 1, (seats, places))

    def test_just_one_is_of_every_row_that_wins(self):
        for seats, places in EDGES + list(long_lines()) + list(lines(4, (1, 3), (0, 1, 2))):
            found = middle(seats, places)
            if found[0] > 1:
                continue
            for s in range(2 ** len(seats)):
                row, wide, together = joined(s, seats, places)
                if row == 1 and 2 * together > sum(seats):
                    self.assertEqual(s >> found[1] & 1, 1, (s, seats, places))

    def test_turned_about(self):
        for seats, places in EDGES + list(long_lines()):
            turned = [100 - place for place in places]
            self.assertEqual(middle(seats, turned), middle(seats, places), (seats, places))


class CallTest(unittest.TestCase):
    def test_arguments_by_name(self):
        self.assertEqual(middle(places=[10, 20], seats=[2, 3]), [1, 1])

    def test_kind_of_the_answer(self):
        for seats, places in EDGES + [case[1:] for case in NOT_AS_TOLD]:
            answer = middle(seats, places)
            self.assertTrue(is_plain_answer(answer), answer)

    def test_as_many_as_told(self):
        for seats, places in EDGES:
            answer = middle(seats, places)
            self.assertEqual(len(answer), 1 + answer[0])

    def test_what_is_handed_in_is_not_changed(self):
        for seats, places in EDGES + [case[1:] for case in NOT_AS_TOLD]:
            handed_seats, handed_places = ReadOnlyList(seats), ReadOnlyList(places)
            middle(handed_seats, handed_places)
            self.assertEqual((handed_seats, handed_places), (seats, places))

    def test_a_second_call_answers_as_the_first(self):
        first = [middle(seats, places) for seats, places in EDGES]
        kept = [list(answer) for answer in first]
        for answer in first:
            answer.append(99)
        for name, seats, places in NOT_AS_TOLD:
            middle(seats, places)
        self.assertEqual([middle(seats, places) for seats, places in EDGES], kept)

    def test_a_refusal_is_made_anew(self):
        middle([], []).append(99)
        self.assertEqual(middle([], []), [-22])


if __name__ == "__main__":
    unittest.main()
